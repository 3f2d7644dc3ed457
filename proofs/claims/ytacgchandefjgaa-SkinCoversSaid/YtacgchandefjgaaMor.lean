/-
  Texts in one: RunM, RunN, RunT, RunS, RegM, RegF, RegS, Mor, Moq, Mod, Mox, Moy, Cel.
-/
import Derived.Test.YtacgchandefjgaaScn
namespace Go.Proofs.Ytacgchandefjgaa
abbrev Rl : Type := List (Int × Int)
def memR (L : Rl) (x : Int) : Prop := ∃ r ∈ L, r.1 ≤ x ∧ x < r.2
def memB (L : Rl) (x : Int) : Bool := L.any fun r => bif decide (r.1 ≤ x) then decide (x < r.2) else false
def Nr : Int → Rl → Prop
  | _, [] => True
  | lo, r :: L => lo < r.1 ∧ r.1 < r.2 ∧ Nr r.2 L
def endR : Int → Rl → Int
  | lo, [] => lo
  | _, r :: L => endR r.2 L
def valR (L : Rl) : Prop := Nr (-1048577) L ∧ endR (-1048577) L ≤ 1048576
noncomputable def valB (L : Rl) : Bool := @decide (valR L) (Classical.propDecidable _)
def lenR (L : Rl) : Int := (L.map fun r => r.2 - r.1).sum
theorem valB_iff {L : Rl} : valB L = true ↔ valR L := by unfold valB; simp
theorem memB_iff {L : Rl} {x : Int} : memB L x = true ↔ memR L x := by
  unfold memB memR
  rw [List.any_eq_true]
  constructor
  · rintro ⟨r, hr, h⟩
    refine ⟨r, hr, ?_⟩
    by_cases h1 : r.1 ≤ x
    · rw [decide_eq_true h1] at h
      exact ⟨h1, of_decide_eq_true h⟩
    · rw [decide_eq_false h1] at h; cases h
  · rintro ⟨r, hr, h1, h2⟩
    exact ⟨r, hr, by rw [decide_eq_true h1, decide_eq_true h2]; rfl⟩
theorem memR_nil (x : Int) : ¬ memR [] x := fun ⟨_, h, _⟩ => by cases h
theorem memR_cons {r : Int × Int} {L : Rl} {x : Int} : memR (r :: L) x ↔ (r.1 ≤ x ∧ x < r.2) ∨ memR L x := by
  unfold memR
  constructor
  · rintro ⟨q, hq, h⟩
    rcases List.mem_cons.1 hq with rfl | hq
    · exact .inl h
    · exact .inr ⟨q, hq, h⟩
  · rintro (h | ⟨q, hq, h⟩)
    · exact ⟨r, List.mem_cons_self, h⟩
    · exact ⟨q, List.mem_cons_of_mem _ hq, h⟩
theorem memR_app {A B : Rl} {x : Int} : memR (A ++ B) x ↔ memR A x ∨ memR B x := by
  induction A with
  | nil => simp [memR_nil]
  | cons a A ih => rw [List.cons_append, memR_cons, memR_cons, ih, or_assoc]
theorem Nr.gt : ∀ {L : Rl} {lo x : Int}, Nr lo L → memR L x → lo < x
  | [], _, x, _, h => absurd h (memR_nil x)
  | r :: L, lo, x, ⟨h1, h2, h3⟩, h => by
    rcases memR_cons.1 h with h | h
    · omega
    · have := Nr.gt h3 h; omega
theorem Nr.le_end : ∀ {L : Rl} {lo : Int}, Nr lo L → lo ≤ endR lo L
  | [], _, _ => Int.le_refl _
  | r :: L, lo, ⟨h1, h2, h3⟩ => by have := Nr.le_end h3; show lo ≤ endR r.2 L; omega
theorem Nr.lt_end : ∀ {L : Rl} {lo x : Int}, Nr lo L → memR L x → x < endR lo L
  | [], _, x, _, h => absurd h (memR_nil x)
  | r :: L, lo, x, ⟨h1, h2, h3⟩, h => by
    show x < endR r.2 L
    rcases memR_cons.1 h with h | h
    · have := Nr.le_end h3; omega
    · exact Nr.lt_end h3 h
theorem Nr.weak : ∀ {L : Rl} {lo lo' : Int}, Nr lo L → lo' ≤ lo → Nr lo' L
  | [], _, _, _, _ => trivial
  | r :: L, _, _, ⟨h1, h2, h3⟩, h => ⟨by omega, h2, h3⟩
theorem Nr_app : ∀ {A B : Rl} {lo : Int}, Nr lo (A ++ B) ↔ Nr lo A ∧ Nr (endR lo A) B
  | [], _, _ => by simp [Nr, endR]
  | a :: A, B, lo => by
    show _ ∧ _ ∧ Nr a.2 (A ++ B) ↔ (_ ∧ _ ∧ Nr a.2 A) ∧ Nr (endR a.2 A) B
    rw [Nr_app]
    simp only [and_assoc]
theorem endR_app : ∀ (A : Rl) (r : Int × Int) (lo : Int), endR lo (A ++ [r]) = r.2
  | [], _, _ => rfl
  | _ :: A, r, _ => endR_app A r _
theorem endR_any : ∀ (A : Rl) (lo lo' : Int), A ≠ [] → endR lo A = endR lo' A
  | [], _, _, h => absurd rfl h
  | _ :: _, _, _, _ => rfl
/-- The normal form of a set is one list. -/
theorem canon_R : ∀ {A B : Rl} {lo lo' : Int}, Nr lo A → Nr lo' B → (∀ x, memR A x ↔ memR B x) → A = B
  | [], [], _, _, _, _, _ => rfl
  | [], b :: B, _, _, _, ⟨_, h2, _⟩, h => absurd ((h b.1).2 (memR_cons.2 (.inl ⟨Int.le_refl _, h2⟩))) (memR_nil _)
  | a :: A, [], _, _, ⟨_, h2, _⟩, _, h => absurd ((h a.1).1 (memR_cons.2 (.inl ⟨Int.le_refl _, h2⟩))) (memR_nil _)
  | a :: A, b :: B, lo, lo', ⟨a1, a2, a3⟩, ⟨b1, b2, b3⟩, h => by
    have ha : b.1 ≤ a.1 := by
      rcases memR_cons.1 ((h a.1).1 (memR_cons.2 (.inl ⟨Int.le_refl _, a2⟩))) with g | g
      · omega
      · have := b3.gt g; omega
    have hb : a.1 ≤ b.1 := by
      rcases memR_cons.1 ((h b.1).2 (memR_cons.2 (.inl ⟨Int.le_refl _, b2⟩))) with g | g
      · omega
      · have := a3.gt g; omega
    have e1 : a.2 ≤ b.2 := by
      rcases Int.lt_or_le b.2 a.2 with g | g
      · rcases memR_cons.1 ((h b.2).1 (memR_cons.2 (.inl ⟨by omega, g⟩))) with k | k
        · omega
        · have := b3.gt k; omega
      · exact g
    have e2 : b.2 ≤ a.2 := by
      rcases Int.lt_or_le a.2 b.2 with g | g
      · rcases memR_cons.1 ((h a.2).2 (memR_cons.2 (.inl ⟨by omega, g⟩))) with k | k
        · omega
        · have := a3.gt k; omega
      · exact g
    have e : a = b := Prod.ext (by omega) (by omega)
    subst e
    congr 1
    refine canon_R a3 b3 fun x => ?_
    constructor
    · intro g
      rcases memR_cons.1 ((h x).1 (memR_cons.2 (.inr g))) with k | k
      · have := a3.gt g; omega
      · exact k
    · intro g
      rcases memR_cons.1 ((h x).2 (memR_cons.2 (.inr g))) with k | k
      · have := b3.gt g; omega
      · exact k
/-- The normal form of a set, if it has one. -/
noncomputable def nfR (p : Int → Prop) : Rl := @dite Rl (∃ L : Rl, (∃ lo, Nr lo L) ∧ ∀ x, memR L x ↔ p x) (Classical.propDecidable _) (fun h => h.choose) (fun _ => [])
theorem nfR_eq {p : Int → Prop} {L : Rl} {lo : Int} (h : Nr lo L) (hm : ∀ x, memR L x ↔ p x) : nfR p = L := by
  have hex : ∃ L : Rl, (∃ lo, Nr lo L) ∧ ∀ x, memR L x ↔ p x := ⟨L, ⟨lo, h⟩, hm⟩
  unfold nfR
  rw [dif_pos hex]
  obtain ⟨⟨lo', h1⟩, h2⟩ := hex.choose_spec
  exact canon_R h1 h fun x => (h2 x).trans (hm x).symm
theorem nfR_congr {p q : Int → Prop} (h : ∀ x, p x ↔ q x) : nfR p = nfR q := by rw [show p = q from funext fun x => propext (h x)]
/-- Validity by places. -/
def good (lo : Int) (L : Rl) (i : Nat) (h : i < L.length) : Prop := L[i].1 < L[i].2 ∧ L[i].2 ≤ 1048576 ∧ lo < L[i].1 ∧ (∀ h0 : 0 < i, (L[i - 1]'(by omega)).2 < L[i].1)
theorem val_good : ∀ {L : Rl} {lo : Int}, lo ≤ 1048576 → ((Nr lo L ∧ endR lo L ≤ 1048576) ↔ ∀ i h, good lo L i h)
  | [], lo, hlo => by simp [Nr, endR, hlo]
  | r :: L, lo, hlo => by
    constructor
    · rintro ⟨⟨h1, h2, h3⟩, h4⟩
      have h5 := h3.le_end
      have h4 : endR r.2 L ≤ 1048576 := h4
      have ih := (val_good (L := L) (lo := r.2) (by omega)).1 ⟨h3, h4⟩
      intro i h
      cases i with
      | zero => exact ⟨h2, by show r.2 ≤ _; omega, h1, fun h0 => absurd h0 (Nat.lt_irrefl _)⟩
      | succ i =>
        have hi : i < L.length := by simpa using h
        obtain ⟨g1, g2, g3, g4⟩ := ih i hi
        refine ⟨g1, g2, by show lo < L[i].1; omega, fun _ => ?_⟩
        cases i with
        | zero => exact g3
        | succ i => exact g4 (Nat.succ_pos _)
    · intro h
      obtain ⟨g1, g2, g3, _⟩ := h 0 (by simp)
      have g1 : r.1 < r.2 := g1
      have g2 : r.2 ≤ 1048576 := g2
      have g3 : lo < r.1 := g3
      have := (val_good (L := L) (lo := r.2) g2).2 fun i hi => by
        obtain ⟨k1, k2, k3, k4⟩ := h (i + 1) (by simpa using hi)
        have k3 : lo < L[i].1 := k3
        refine ⟨k1, k2, ?_, fun h0 => ?_⟩
        · cases i with
          | zero => exact k4 (Nat.succ_pos _)
          | succ i =>
            have k5 := k4 (Nat.succ_pos _)
            have k5 : L[i].2 < L[i + 1].1 := k5
            -- all places behind lie above
            have up : ∀ j (hj : j < L.length), r.2 < L[j].1 := fun j => by
              induction j with
              | zero =>
                intro hj
                exact (h 1 (by simpa using hj)).2.2.2 (Nat.succ_pos _)
              | succ j ih =>
                intro hj
                have e1 := ih (by omega)
                have e2 := (h (j + 1) (by simp; omega)).1
                have e2 : L[j].1 < L[j].2 := e2
                have e3 := (h (j + 2) (by simp only [List.length_cons]; omega)).2.2.2 (Nat.succ_pos _)
                have e3 : L[j].2 < L[j + 1].1 := e3
                omega
            exact up _ hi
        · have k5 := k4 (Nat.succ_pos _)
          cases i with
          | zero => exact absurd h0 (Nat.lt_irrefl _)
          | succ i => exact k5
      exact ⟨⟨g3, g1, this.1⟩, this.2⟩
theorem valR_good {L : Rl} : valR L ↔ ∀ i h, good (-1048577) L i h := val_good (by omega)
/-- Sums of lengths. -/
theorem lenR_take {L : Rl} {j : Nat} (hj : j < L.length) : lenR (L.take (j + 1)) = lenR (L.take j) + (L[j].2 - L[j].1) := by
  unfold lenR
  rw [List.take_succ_eq_append_getElem hj, List.map_append, List.sum_append]
  simp
theorem good_in {L : Rl} (h : valR L) {j : Nat} (hj : j < L.length) : -1048576 ≤ L[j].1 ∧ L[j].1 < L[j].2 ∧ L[j].2 ≤ 1048576 := by
  obtain ⟨a, b, c, _⟩ := valR_good.1 h j hj
  omega
theorem lenR_bd {L : Rl} (h : valR L) : ∀ j, j ≤ L.length → 0 ≤ lenR (L.take j) ∧ lenR (L.take j) ≤ 2097152 * j
  | 0, _ => by simp [lenR]
  | j + 1, hj => by
    have ih := lenR_bd h j (by omega)
    rw [lenR_take (show j < L.length by omega)]
    have := good_in h (show j < L.length by omega)
    omega
/-- A run put to a list, in its order. -/
def lastR (acc : Rl) : Int × Int := acc.getD (acc.length - 1) (0, 0)
def mstR (acc : Rl) (r : Int × Int) : Rl := bif (bif decide (0 < acc.length) then decide (r.1 ≤ (lastR acc).2) else false) then acc.set (acc.length - 1) ((lastR acc).1, max (lastR acc).2 r.2) else acc ++ [r]
def mrgR (L : Rl) : Rl := L.foldl mstR []
theorem lastR_app (A : Rl) (l : Int × Int) : lastR (A ++ [l]) = l := by unfold lastR; simp
theorem mstR_nil (r : Int × Int) : mstR [] r = [r] := rfl
theorem mstR_app (A : Rl) (l r : Int × Int) : mstR (A ++ [l]) r = if r.1 ≤ l.2 then A ++ [(l.1, max l.2 r.2)] else A ++ [l] ++ [r] := by
  unfold mstR
  rw [lastR_app]
  have : decide (0 < (A ++ [l]).length) = true := decide_eq_true (by simp)
  rw [this]
  by_cases h : r.1 ≤ l.2
  · rw [decide_eq_true h, if_pos h]
    show (A ++ [l]).set ((A ++ [l]).length - 1) _ = _
    simp
  · rw [decide_eq_false h, if_neg h]; rfl
/-- What putting a run does, if it does not begin ahead of the last one. -/
theorem mstR_ok {acc : Rl} {r : Int × Int} {lo : Int} (h : Nr lo acc) (hr : r.1 < r.2) (hlo : lo < r.1) (hl : acc ≠ [] → (lastR acc).1 ≤ r.1) :
    Nr lo (mstR acc r) ∧ (∀ x, memR (mstR acc r) x ↔ memR acc x ∨ (r.1 ≤ x ∧ x < r.2)) ∧ mstR acc r ≠ [] ∧ (lastR (mstR acc r)).1 ≤ r.1 ∧ endR lo (mstR acc r) = max (endR lo acc) r.2 := by
  rcases List.eq_nil_or_concat acc with rfl | ⟨A, l, rfl⟩
  · rw [mstR_nil]
    refine ⟨⟨hlo, hr, trivial⟩, fun x => ?_, by simp, Int.le_refl _, ?_⟩
    · rw [memR_cons]; simp [memR_nil]
    · show r.2 = max lo r.2; omega
  · rw [List.concat_eq_append] at *
    have hl := hl (by simp)
    rw [lastR_app] at hl
    rw [mstR_app]
    obtain ⟨h1, h2, h3, _⟩ := Nr_app.1 h
    by_cases hc : r.1 ≤ l.2
    · rw [if_pos hc]
      refine ⟨Nr_app.2 ⟨h1, h2, by show l.1 < max l.2 r.2; omega, trivial⟩, fun x => ?_, by simp, by rw [lastR_app]; exact hl, by rw [endR_app, endR_app]⟩
      rw [memR_app, memR_app, memR_cons, memR_cons]
      simp only [memR_nil, or_false]
      constructor
      · rintro (g | g)
        · exact .inl (.inl g)
        · have g : l.1 ≤ x ∧ x < max l.2 r.2 := g
          by_cases k : x < l.2
          · exact .inl (.inr ⟨g.1, k⟩)
          · exact .inr (by omega)
      · rintro ((g | g) | g)
        · exact .inl g
        · exact .inr (by show l.1 ≤ x ∧ x < max l.2 r.2; omega)
        · exact .inr (by show l.1 ≤ x ∧ x < max l.2 r.2; omega)
    · rw [if_neg hc]
      refine ⟨Nr_app.2 ⟨h, by rw [endR_app]; omega, hr, trivial⟩, fun x => ?_, by simp, by rw [lastR_app]; exact Int.le_refl _, by rw [endR_app, endR_app]; omega⟩
      rw [memR_app (A := A ++ [l])]
      rw [memR_cons]
      simp [memR_nil]
/-- Merging runs that ascend. -/
theorem foldm_ok : ∀ (L acc : Rl) (lo : Int), Nr lo acc → (∀ r ∈ L, r.1 < r.2 ∧ lo < r.1) → (acc ≠ [] → ∀ r ∈ L, (lastR acc).1 ≤ r.1) → L.Pairwise (fun a b => a.1 ≤ b.1) →
    Nr lo (L.foldl mstR acc) ∧ (∀ x, memR (L.foldl mstR acc) x ↔ memR acc x ∨ memR L x) ∧ (∀ M, endR lo acc ≤ M → (∀ r ∈ L, r.2 ≤ M) → endR lo (L.foldl mstR acc) ≤ M)
  | [], acc, lo, h, _, _, _ => ⟨h, fun x => by simp [memR_nil], fun M h _ => h⟩
  | r :: L, acc, lo, h, hr, hl, hp => by
    obtain ⟨r1, r2⟩ := hr r List.mem_cons_self
    obtain ⟨a1, a2, a3, a4, a5⟩ := mstR_ok h r1 r2 fun hn => hl hn r List.mem_cons_self
    obtain ⟨p1, p2⟩ := List.pairwise_cons.1 hp
    obtain ⟨b1, b2, b3⟩ := foldm_ok L (mstR acc r) lo a1 (fun q hq => hr q (List.mem_cons_of_mem _ hq)) (fun _ q hq => Int.le_trans a4 (p1 q hq)) p2
    refine ⟨b1, fun x => ?_, fun M h1 h2 => b3 M (by rw [a5]; have := h2 r List.mem_cons_self; omega) fun q hq => h2 q (List.mem_cons_of_mem _ hq)⟩
    rw [List.foldl_cons, b2, a2, memR_cons, or_assoc]
theorem mrgR_ok {L : Rl} {lo : Int} (hr : ∀ r ∈ L, r.1 < r.2 ∧ lo < r.1) (hp : L.Pairwise (fun a b => a.1 ≤ b.1)) : Nr lo (mrgR L) ∧ (∀ x, memR (mrgR L) x ↔ memR L x) ∧ (∀ M, lo ≤ M → (∀ r ∈ L, r.2 ≤ M) → endR lo (mrgR L) ≤ M) := by
  obtain ⟨a, b, c⟩ := foldm_ok L [] lo trivial hr (fun h => absurd rfl h) hp
  exact ⟨a, fun x => by rw [mrgR, b]; simp [memR_nil], c⟩
theorem mrgR_nf {L : Rl} {lo : Int} (hr : ∀ r ∈ L, r.1 < r.2 ∧ lo < r.1) (hp : L.Pairwise (fun a b => a.1 ≤ b.1)) : mrgR L = nfR (memR L) := (nfR_eq (mrgR_ok hr hp).1 (mrgR_ok hr hp).2.1).symm
theorem Nr.pair : ∀ {L : Rl} {lo : Int}, Nr lo L → L.Pairwise (fun a b => a.1 ≤ b.1) ∧ ∀ r ∈ L, lo < r.1 ∧ r.1 < r.2
  | [], _, _ => ⟨List.Pairwise.nil, fun _ h => by cases h⟩
  | r :: L, lo, ⟨h1, h2, h3⟩ => by
    obtain ⟨p, q⟩ := Nr.pair h3
    refine ⟨List.pairwise_cons.2 ⟨fun s hs => ?_, p⟩, fun s hs => ?_⟩
    · have := (q s hs).1; omega
    · rcases List.mem_cons.1 hs with rfl | hs
      · exact ⟨h1, h2⟩
      · have := q s hs; omega
theorem Nr.pair2 : ∀ {L : Rl} {lo : Int}, Nr lo L → L.Pairwise (fun a b => a.2 ≤ b.2)
  | [], _, _ => List.Pairwise.nil
  | r :: L, lo, ⟨h1, h2, h3⟩ => List.pairwise_cons.2 ⟨fun s hs => by have := h3.pair.2 s hs; omega, h3.pair2⟩
theorem val_ends {L : Rl} (h : valR L) (h0 : 0 < L.length) : ∀ r ∈ L, L[0].1 ≤ r.1 ∧ r.2 ≤ (L[L.length - 1]'(by omega)).2 := by
  intro r hr
  obtain ⟨i, hi, rfl⟩ := List.getElem_of_mem hr
  have p1 := h.1.pair.1
  have p2 := h.1.pair2
  rw [List.pairwise_iff_getElem] at p1 p2
  constructor
  · by_cases e : i = 0
    · subst e; exact Int.le_refl _
    · exact p1 0 i h0 hi (by omega)
  · by_cases e : i = L.length - 1
    · subst e; exact Int.le_refl _
    · exact p2 i (L.length - 1) hi (by omega) (by omega)
theorem val_in {L : Rl} (h : valR L) : ∀ r ∈ L, -1048576 ≤ r.1 ∧ r.1 < r.2 ∧ r.2 ≤ 1048576 := fun r hr => by
  obtain ⟨i, hi, rfl⟩ := List.getElem_of_mem hr
  exact good_in h hi
end Go.Proofs.Ytacgchandefjgaa

namespace Go.Proofs.Ytacgchandefjgaa
def insI : List Int → Int → List Int
  | [], x => [x]
  | a :: l, x => bif decide (x ≤ a) then (bif decide (x < a) then x :: a :: l else a :: l) else a :: insI l x
theorem insI_mem : ∀ {l : List Int} {x y : Int}, y ∈ insI l x ↔ y = x ∨ y ∈ l
  | [], x, y => by simp [insI]
  | a :: l, x, y => by
    have ih := insI_mem (l := l) (x := x) (y := y)
    show y ∈ (bif decide (x ≤ a) then (bif decide (x < a) then x :: a :: l else a :: l) else a :: insI l x) ↔ _
    by_cases h1 : x ≤ a
    · rw [decide_eq_true h1]
      by_cases h2 : x < a
      · rw [decide_eq_true h2]; simp
      · rw [decide_eq_false h2]
        have : x = a := by omega
        subst this
        simp
    · rw [decide_eq_false h1]
      simp only [cond_false, List.mem_cons, ih]
      constructor <;> (intro h; rcases h with h | h | h <;> simp [h])
abbrev asc (l : List Int) : Prop := l.Pairwise (fun a b => a < b)
theorem insI_asc : ∀ {l : List Int} {x : Int}, asc l → asc (insI l x)
  | [], _, _ => List.pairwise_cons.2 ⟨(fun _ h => by cases h), List.Pairwise.nil⟩
  | a :: l, x, h => by
    obtain ⟨h1, h2⟩ := List.pairwise_cons.1 h
    show asc (bif decide (x ≤ a) then (bif decide (x < a) then x :: a :: l else a :: l) else a :: insI l x)
    by_cases g1 : x ≤ a
    · rw [decide_eq_true g1]
      by_cases g2 : x < a
      · rw [decide_eq_true g2]
        refine List.pairwise_cons.2 ⟨fun y hy => ?_, h⟩
        rcases List.mem_cons.1 hy with rfl | hy
        · exact g2
        · have := h1 y hy; omega
      · rw [decide_eq_false g2]; exact h
    · rw [decide_eq_false g1]
      refine List.pairwise_cons.2 ⟨fun y hy => ?_, insI_asc h2⟩
      rcases insI_mem.1 hy with rfl | hy
      · omega
      · exact h1 y hy
def bstR (acc : List Int) (r : Int × Int) : List Int := bif decide (r.1 < r.2) then insI (insI acc r.1) r.2 else acc
def bsR (L : Rl) : List Int := L.foldl bstR []
theorem foldb_ok : ∀ (L : Rl) (acc : List Int), asc acc → asc (L.foldl bstR acc) ∧ ∀ y, y ∈ L.foldl bstR acc ↔ y ∈ acc ∨ ∃ r ∈ L, r.1 < r.2 ∧ (y = r.1 ∨ y = r.2)
  | [], acc, h => ⟨h, fun y => by simp⟩
  | r :: L, acc, h => by
    have ha : asc (bstR acc r) := by
      unfold bstR
      cases decide (r.1 < r.2)
      · exact h
      · exact insI_asc (insI_asc h)
    obtain ⟨i1, i2⟩ := foldb_ok L (bstR acc r) ha
    refine ⟨i1, fun y => ?_⟩
    rw [List.foldl_cons, i2]
    have e : y ∈ bstR acc r ↔ y ∈ acc ∨ (r.1 < r.2 ∧ (y = r.1 ∨ y = r.2)) := by
      unfold bstR
      by_cases hr : r.1 < r.2
      · rw [decide_eq_true hr]
        simp only [cond_true, insI_mem]
        constructor
        · rintro (h | h | h)
          · exact .inr ⟨hr, .inr h⟩
          · exact .inr ⟨hr, .inl h⟩
          · exact .inl h
        · rintro (h | ⟨_, h | h⟩)
          · exact .inr (.inr h)
          · exact .inr (.inl h)
          · exact .inl h
      · rw [decide_eq_false hr]; simp [hr]
    rw [e]
    constructor
    · rintro ((h | h) | ⟨q, hq, h⟩)
      · exact .inl h
      · exact .inr ⟨r, List.mem_cons_self, h⟩
      · exact .inr ⟨q, List.mem_cons_of_mem _ hq, h⟩
    · rintro (h | ⟨q, hq, h⟩)
      · exact .inl (.inl h)
      · rcases List.mem_cons.1 hq with rfl | hq
        · exact .inl (.inr h)
        · exact .inr ⟨q, hq, h⟩
theorem bsR_asc (L : Rl) : asc (bsR L) := (foldb_ok L [] List.Pairwise.nil).1
theorem bsR_mem {L : Rl} {y : Int} : y ∈ bsR L ↔ ∃ r ∈ L, r.1 < r.2 ∧ (y = r.1 ∨ y = r.2) := by
  have := (foldb_ok L [] List.Pairwise.nil).2 y
  simpa [bsR] using this
/-- The runs between bounds. -/
def seg (f : Int → Bool) : List Int → Rl
  | a :: b :: l => bif f a then (a, b) :: seg f (b :: l) else seg f (b :: l)
  | _ => []
theorem seg_ok (f : Int → Bool) : ∀ {l : List Int}, asc l → (∀ r ∈ seg f l, r.1 < r.2 ∧ r.1 ∈ l ∧ r.2 ∈ l) ∧ (seg f l).Pairwise (fun a b => a.1 ≤ b.1)
  | [], _ => ⟨(fun _ h => by cases h), List.Pairwise.nil⟩
  | [a], _ => ⟨(fun _ h => by cases h), List.Pairwise.nil⟩
  | a :: b :: l, h => by
    obtain ⟨h1, h2⟩ := List.pairwise_cons.1 h
    obtain ⟨i1, i2⟩ := seg_ok f h2
    have hab := h1 b List.mem_cons_self
    have up : ∀ r ∈ seg f (b :: l), r.1 < r.2 ∧ r.1 ∈ a :: b :: l ∧ r.2 ∈ a :: b :: l := fun r hr => by
      obtain ⟨a1, a2, a3⟩ := i1 r hr
      exact ⟨a1, List.mem_cons_of_mem _ a2, List.mem_cons_of_mem _ a3⟩
    show (∀ r ∈ (bif f a then (a, b) :: seg f (b :: l) else seg f (b :: l)), _) ∧ (bif f a then (a, b) :: seg f (b :: l) else seg f (b :: l)).Pairwise _
    cases f a
    · exact ⟨up, i2⟩
    · refine ⟨fun r hr => ?_, List.pairwise_cons.2 ⟨fun r hr => ?_, i2⟩⟩
      · rcases List.mem_cons.1 hr with rfl | hr
        · exact ⟨hab, List.mem_cons_self, List.mem_cons_of_mem _ List.mem_cons_self⟩
        · exact up r hr
      · have := h1 r.1 (i1 r hr).2.1
        show a ≤ r.1; omega
theorem seg_mem' (f : Int → Bool) : ∀ {l : List Int} {a : Int}, asc (a :: l) → (∀ y ∈ a :: l, ∀ x, y ≤ x → (∀ z ∈ a :: l, ¬ (y < z ∧ z ≤ x)) → f x = f y) → ∀ x, memR (seg f (a :: l)) x ↔ a ≤ x ∧ (∃ z ∈ l, x < z) ∧ f x = true
  | [], a, _, _, x => by simp [seg, memR_nil]
  | b :: l, a, h, hc, x => by
    obtain ⟨h1, h2⟩ := List.pairwise_cons.1 h
    have hab := h1 b List.mem_cons_self
    have h3 := (List.pairwise_cons.1 h2).1
    have ih := seg_mem' f h2 (fun y hy x hyx hz => hc y (List.mem_cons_of_mem _ hy) x hyx fun z hz' => by
      rcases List.mem_cons.1 hz' with rfl | hz'
      · intro ⟨g, _⟩
        have := h1 y hy; omega
      · exact hz z hz') x
    have e : memR (seg f (a :: b :: l)) x ↔ (f a = true ∧ a ≤ x ∧ x < b) ∨ memR (seg f (b :: l)) x := by
      show memR (bif f a then (a, b) :: seg f (b :: l) else seg f (b :: l)) x ↔ _
      cases f a
      · simp
      · simp only [cond_true, memR_cons, true_and]
    rw [e, ih]
    by_cases hx : x < b
    · constructor
      · rintro (⟨g1, g2, _⟩ | ⟨g, _⟩)
        · refine ⟨g2, ⟨b, List.mem_cons_self, hx⟩, ?_⟩
          rw [hc a List.mem_cons_self x g2 fun z hz => by
            rcases List.mem_cons.1 hz with rfl | hz
            · omega
            · rcases List.mem_cons.1 hz with rfl | hz
              · omega
              · have := h3 z hz; omega]
          exact g1
        · omega
      · rintro ⟨g1, _, g3⟩
        refine .inl ⟨?_, g1, hx⟩
        rw [← hc a List.mem_cons_self x g1 fun z hz => by
            rcases List.mem_cons.1 hz with rfl | hz
            · omega
            · rcases List.mem_cons.1 hz with rfl | hz
              · omega
              · have := h3 z hz; omega]
        exact g3
    · constructor
      · rintro (⟨_, _, g⟩ | ⟨g1, ⟨z, hz, g2⟩, g3⟩)
        · exact absurd g hx
        · exact ⟨by omega, ⟨z, List.mem_cons_of_mem _ hz, g2⟩, g3⟩
      · rintro ⟨g1, ⟨z, hz, g2⟩, g3⟩
        refine .inr ⟨by omega, ?_, g3⟩
        rcases List.mem_cons.1 hz with rfl | hz
        · exact absurd g2 hx
        · exact ⟨z, hz, g2⟩
theorem seg_mem (f : Int → Bool) {l : List Int} (h : asc l) (hc : ∀ y ∈ l, ∀ x, y ≤ x → (∀ z ∈ l, ¬ (y < z ∧ z ≤ x)) → f x = f y) (h0 : ∀ x, (∀ z ∈ l, x < z) → f x = false) (h1 : ∀ x, (∀ z ∈ l, z ≤ x) → f x = false) (x : Int) : memR (seg f l) x ↔ f x = true := by
  cases l with
  | nil =>
    rw [h0 x fun _ h => by cases h]
    simp [seg, memR_nil]
  | cons a l =>
    rw [seg_mem' f h hc]
    constructor
    · exact fun h => h.2.2
    · intro hf
      obtain ⟨p1, p2⟩ := List.pairwise_cons.1 h
      refine ⟨?_, ?_, hf⟩
      · rcases Int.lt_or_le x a with g | g
        · rw [h0 x fun z hz => by
            rcases List.mem_cons.1 hz with rfl | hz
            · exact g
            · have := p1 z hz; omega] at hf
          cases hf
        · exact g
      · apply Classical.byContradiction
        intro hn
        have ha : a ≤ x := by
          rcases Int.lt_or_le x a with g | g
          · rw [h0 x fun z hz => by
              rcases List.mem_cons.1 hz with rfl | hz
              · exact g
              · have := p1 z hz; omega] at hf
            cases hf
          · exact g
        rw [h1 x fun z hz => by
          rcases List.mem_cons.1 hz with rfl | hz
          · exact ha
          · rcases Int.lt_or_le x z with g | g
            · exact absurd ⟨z, hz, g⟩ hn
            · exact g] at hf
        cases hf
/-- Between the bounds of runs membership does not change. -/
theorem memB_const {A L : Rl} (hs : ∀ r ∈ A, r ∈ L) {y x : Int} (hyx : y ≤ x) (hz : ∀ z ∈ bsR L, ¬ (y < z ∧ z ≤ x)) : memB A x = memB A y := by
  rw [Bool.eq_iff_iff, memB_iff, memB_iff]
  have key : ∀ r ∈ A, (r.1 ≤ x ∧ x < r.2) ↔ (r.1 ≤ y ∧ y < r.2) := fun r hr => by
    by_cases hn : r.1 < r.2
    · have z1 := hz r.1 (bsR_mem.2 ⟨r, hs r hr, hn, .inl rfl⟩)
      have z2 := hz r.2 (bsR_mem.2 ⟨r, hs r hr, hn, .inr rfl⟩)
      omega
    · omega
  exact ⟨fun ⟨r, hr, h⟩ => ⟨r, hr, (key r hr).1 h⟩, fun ⟨r, hr, h⟩ => ⟨r, hr, (key r hr).2 h⟩⟩
theorem memB_low {A L : Rl} (hs : ∀ r ∈ A, r ∈ L) {x : Int} (hz : ∀ z ∈ bsR L, x < z) : memB A x = false := by
  rw [← Bool.not_eq_true, memB_iff]
  rintro ⟨r, hr, h1, h2⟩
  have := hz r.1 (bsR_mem.2 ⟨r, hs r hr, by omega, .inl rfl⟩)
  omega
theorem memB_high {A L : Rl} (hs : ∀ r ∈ A, r ∈ L) {x : Int} (hz : ∀ z ∈ bsR L, z ≤ x) : memB A x = false := by
  rw [← Bool.not_eq_true, memB_iff]
  rintro ⟨r, hr, h1, h2⟩
  have := hz r.2 (bsR_mem.2 ⟨r, hs r hr, by omega, .inr rfl⟩)
  omega
/-- The runs between bounds, merged, are the normal form of the set. -/
theorem seg_nf (f : Int → Bool) {l : List Int} (h : asc l) (hm : ∀ x, memR (seg f l) x ↔ f x = true) : mrgR (seg f l) = nfR (fun x => f x = true) := by
  obtain ⟨a, b⟩ := seg_ok f h
  have hlo : ∃ lo, ∀ r ∈ seg f l, lo < r.1 := by
    cases l with
    | nil => exact ⟨0, fun _ h => by cases h⟩
    | cons c l =>
      refine ⟨c - 1, fun r hr => ?_⟩
      obtain ⟨p1, _⟩ := List.pairwise_cons.1 h
      rcases List.mem_cons.1 (a r hr).2.1 with e | e
      · omega
      · have := p1 _ e; omega
  obtain ⟨lo, hlo⟩ := hlo
  rw [mrgR_nf (lo := lo) (fun r hr => ⟨(a r hr).1, hlo r hr⟩) b]
  exact nfR_congr hm
end Go.Proofs.Ytacgchandefjgaa

namespace Go.Proofs.Ytacgchandefjgaa
theorem seg_val (f : Int → Bool) {bs : List Int} (h : asc bs) (hb : ∀ y ∈ bs, -1048576 ≤ y ∧ y ≤ 1048576) : valR (mrgR (seg f bs)) := by
  obtain ⟨s1, s2⟩ := seg_ok f h
  obtain ⟨m1, _, m3⟩ := mrgR_ok (lo := -1048577) (fun r hr => ⟨(s1 r hr).1, by have := hb _ (s1 r hr).2.1; omega⟩) s2
  exact ⟨m1, m3 1048576 (by omega) fun r hr => (hb _ (s1 r hr).2.2).2⟩
theorem valB_of {L : Rl} (h : valR L) : valB L = true := valB_iff.2 h
/-- Counts of a set's members. -/
def cnt (f : Int → Bool) (lo : Int) : Nat → Int
  | 0 => 0
  | n + 1 => cnt f lo n + (bif f (lo + n) then 1 else 0)
theorem cnt_congr {f g : Int → Bool} {lo : Int} : ∀ {n : Nat}, (∀ x, lo ≤ x → x < lo + n → f x = g x) → cnt f lo n = cnt g lo n
  | 0, _ => rfl
  | n + 1, h => by
    show cnt f lo n + _ = cnt g lo n + _
    rw [cnt_congr fun x h1 h2 => h x h1 (by omega), h (lo + n) (by omega) (by omega)]
theorem cnt_add (f : Int → Bool) (lo : Int) (n : Nat) : ∀ m : Nat, cnt f lo (n + m) = cnt f lo n + cnt f (lo + n) m
  | 0 => by simp [cnt]
  | m + 1 => by
    show cnt f lo (n + m) + (bif f (lo + ((n + m : Nat) : Int)) then 1 else 0) = cnt f lo n + (cnt f (lo + n) m + (bif f (lo + n + m) then 1 else 0))
    rw [cnt_add f lo n m, show lo + ((n + m : Nat) : Int) = lo + n + m by omega]
    omega
theorem cnt_const (f : Int → Bool) (lo : Int) (b : Bool) : ∀ n : Nat, (∀ x, lo ≤ x → x < lo + n → f x = b) → cnt f lo n = (bif b then (n : Int) else 0)
  | 0, _ => by cases b <;> rfl
  | n + 1, h => by
    show cnt f lo n + (bif f (lo + n) then 1 else 0) = _
    rw [cnt_const f lo b n fun x h1 h2 => h x h1 (by omega), h (lo + n) (by omega) (by omega)]
    cases b
    · rfl
    · show (n : Int) + 1 = ((n + 1 : Nat) : Int); omega
theorem cnt_sum {f g u i : Int → Bool} {lo : Int} : ∀ {n : Nat}, (∀ x, u x = (f x || g x)) → (∀ x, i x = (f x && g x)) → cnt u lo n + cnt i lo n = cnt f lo n + cnt g lo n
  | 0, _, _ => rfl
  | n + 1, h1, h2 => by
    have ih := cnt_sum (n := n) (lo := lo) h1 h2
    show cnt u lo n + (bif u (lo + n) then 1 else 0) + (cnt i lo n + (bif i (lo + n) then 1 else 0)) = cnt f lo n + (bif f (lo + n) then 1 else 0) + (cnt g lo n + (bif g (lo + n) then 1 else 0))
    rw [h1, h2]
    cases f (lo + n) <;> cases g (lo + n) <;> simp <;> omega
theorem lenR_cnt : ∀ {L : Rl} {lo : Int} {n : Nat}, Nr lo L → endR lo L ≤ lo + 1 + n → lenR L = cnt (memB L) (lo + 1) n
  | [], lo, n, _, _ => by
    rw [cnt_const (memB []) (lo + 1) false n fun x _ _ => rfl]; rfl
  | r :: L, lo, n, ⟨h1, h2, h3⟩, he => by
    have he : endR r.2 L ≤ lo + 1 + n := he
    have hle := h3.le_end
    obtain ⟨a, ha⟩ : ∃ a : Nat, r.1 = lo + 1 + a := ⟨(r.1 - (lo + 1)).toNat, by omega⟩
    obtain ⟨b, hb⟩ : ∃ b : Nat, r.2 = r.1 + b := ⟨(r.2 - r.1).toNat, by omega⟩
    have e : lenR (r :: L) = (r.2 - r.1) + lenR L := by unfold lenR; simp
    have mem0 : ∀ x, x < r.1 → memB (r :: L) x = false := fun x hx => by
      rw [← Bool.not_eq_true, memB_iff, memR_cons]
      rintro (h | h)
      · omega
      · have := h3.gt h; omega
    have mem1 : ∀ x, r.1 ≤ x → x < r.2 → memB (r :: L) x = true := fun x g1 g2 => memB_iff.2 (memR_cons.2 (.inl ⟨g1, g2⟩))
    have mem2 : ∀ x, r.2 ≤ x → memB (r :: L) x = memB L x := fun x hx => by
      rw [Bool.eq_iff_iff, memB_iff, memB_iff, memR_cons]
      constructor
      · rintro (h | h)
        · omega
        · exact h
      · exact .inr
    rw [e]
    -- the place behind the run is empty
    have hend : r.2 ≤ lo + 1 + n := by omega
    obtain ⟨m, hm⟩ : ∃ m : Nat, n = a + (b + m) := ⟨n - (a + b), by omega⟩
    subst hm
    rw [cnt_add, cnt_add, cnt_const _ (lo + 1) false a fun x g1 g2 => mem0 x (by omega), cnt_const _ (lo + 1 + a) true b fun x g1 g2 => mem1 x (by omega) (by omega)]
    rw [cnt_congr (g := memB L) fun x g1 g2 => mem2 x (by omega)]
    have e3 : lo + 1 + (a : Int) + (b : Int) = r.2 := by omega
    rw [e3]
    cases m with
    | zero =>
      have : L = [] := by
        cases L with
        | nil => rfl
        | cons q L =>
          obtain ⟨k1, k2, k3⟩ := h3
          have k4 := k3.le_end
          have he : endR q.2 L ≤ lo + 1 + ((a + (b + 0) : Nat) : Int) := he
          omega
      subst this
      simp [cnt, lenR]; omega
    | succ m =>
      have ih := lenR_cnt (L := L) (lo := r.2) (n := m) h3 (by omega)
      have e4 : cnt (memB L) r.2 (m + 1) = cnt (memB L) (r.2 + 1) m := by
        have := cnt_add (memB L) r.2 1 m
        rw [Nat.add_comm 1 m] at this
        rw [this]
        have e0 : cnt (memB L) r.2 1 = 0 := by
          rw [cnt_const (memB L) r.2 false 1 fun x g1 g2 => by
            have : x = r.2 := by omega
            subst this
            rw [← Bool.not_eq_true, memB_iff]
            intro h
            have := h3.gt h; omega]
          rfl
        rw [e0]; simp
      rw [e4, ← ih]
      simp; omega
theorem lenR_le {L : Rl} (h : valR L) : 0 ≤ lenR L ∧ lenR L ≤ 2097153 := by
  rw [lenR_cnt (n := 2097153) h.1 (by have := h.2; omega)]
  have : ∀ (f : Int → Bool) (lo : Int) (n : Nat), 0 ≤ cnt f lo n ∧ cnt f lo n ≤ n := fun f lo n => by
    induction n with
    | zero => exact ⟨Int.le_refl _, Int.le_refl _⟩
    | succ n ih =>
      show 0 ≤ cnt f lo n + _ ∧ cnt f lo n + _ ≤ _
      cases f (lo + n) <;> simp <;> omega
  have := this (memB L) (-1048577 + 1) 2097153
  omega
end Go.Proofs.Ytacgchandefjgaa

namespace Go.Proofs.Ytacgchandefjgaa
/-- Bound number n of the runs of a list. -/
def bdR (L : Rl) (n : Nat) : Int := if 2 * L.length ≤ n then 9223372036854775807 else if n % 2 = 0 then (L.getD (n / 2) (0, 0)).1 else (L.getD (n / 2) (0, 0)).2
theorem bdR_nil (n : Nat) : bdR [] n = 9223372036854775807 := if_pos (by simp)
theorem bdR_0 (r : Int × Int) (L : Rl) : bdR (r :: L) 0 = r.1 := by
  unfold bdR
  rw [if_neg (by simp only [List.length_cons]; omega), if_pos rfl]; rfl
theorem bdR_1 (r : Int × Int) (L : Rl) : bdR (r :: L) 1 = r.2 := by
  unfold bdR
  rw [if_neg (by simp only [List.length_cons]; omega), if_neg (by omega)]; rfl
theorem bdR_2 (r : Int × Int) (L : Rl) (n : Nat) : bdR (r :: L) (n + 2) = bdR L n := by
  unfold bdR
  have e1 : (n + 2) / 2 = n / 2 + 1 := by omega
  have e2 : (n + 2) % 2 = n % 2 := by omega
  rw [e1, e2]
  by_cases h : 2 * L.length ≤ n
  · rw [if_pos h, if_pos (by simp only [List.length_cons]; omega)]
  · rw [if_neg h, if_neg (by simp only [List.length_cons]; omega)]; rfl
theorem bdR_end {L : Rl} {n : Nat} (h : 2 * L.length ≤ n) : bdR L n = 9223372036854775807 := if_pos h
/-- Bounds ascend. -/
theorem bdR_up : ∀ {L : Rl} {lo : Int}, Nr lo L → endR lo L ≤ 1048576 → ∀ i, lo < 9223372036854775807 → lo < bdR L i ∧ (i < 2 * L.length → bdR L i ≤ 1048576 ∧ ∀ j, i < j → bdR L i < bdR L j)
  | [], lo, _, _, i, hlo => ⟨by rw [bdR_nil]; exact hlo, fun h => absurd h (by simp)⟩
  | r :: L, lo, ⟨h1, h2, h3⟩, he, i, hlo => by
    have he : endR r.2 L ≤ 1048576 := he
    have hr := h3.le_end
    have ih := fun i => bdR_up h3 he i (by omega)
    match i with
    | 0 =>
      rw [bdR_0]
      refine ⟨h1, fun _ => ⟨by omega, fun j hj => ?_⟩⟩
      match j with
      | 0 => omega
      | 1 => rw [bdR_1]; exact h2
      | j + 2 => rw [bdR_2]; have := (ih j).1; omega
    | 1 =>
      rw [bdR_1]
      refine ⟨by omega, fun _ => ⟨by omega, fun j hj => ?_⟩⟩
      match j with
      | 0 => omega
      | 1 => omega
      | j + 2 => rw [bdR_2]; exact (ih j).1
    | i + 2 =>
      rw [bdR_2]
      refine ⟨by have := (ih i).1; omega, fun hi => ?_⟩
      have hi' : i < 2 * L.length := by simp only [List.length_cons] at hi; omega
      obtain ⟨a, b⟩ := (ih i).2 hi'
      refine ⟨a, fun j hj => ?_⟩
      match j with
      | 0 => omega
      | 1 => omega
      | j + 2 => rw [bdR_2]; exact b j (by omega)
/-- Membership by the number of bounds passed. -/
theorem memB_odd : ∀ {L : Rl} {p : Nat} {x : Int}, x < 9223372036854775807 → (∀ i, i < p → bdR L i ≤ x) → (∀ i, p ≤ i → x < bdR L i) → memB L x = decide (p % 2 = 1)
  | [], p, x, hx, h1, _ => by
    have : p = 0 := by
      apply Classical.byContradiction
      intro hp
      have := h1 0 (by omega)
      rw [bdR_nil] at this; omega
    subst this
    rfl
  | r :: L, p, x, hx, h1, h2 => by
    have e : memB (r :: L) x = ((bif decide (r.1 ≤ x) then decide (x < r.2) else false) || memB L x) := rfl
    rw [e]
    match p with
    | 0 =>
      have a := h2 0 (Nat.le_refl _)
      rw [bdR_0] at a
      rw [decide_eq_false (show ¬ r.1 ≤ x by omega), memB_odd (p := 0) hx (fun i hi => absurd hi (Nat.not_lt_zero _)) fun i _ => by have := h2 (i + 2) (by omega); rwa [bdR_2] at this]
      rfl
    | 1 =>
      have a := h1 0 (by omega)
      rw [bdR_0] at a
      have b := h2 1 (Nat.le_refl _)
      rw [bdR_1] at b
      rw [decide_eq_true a, decide_eq_true b]; rfl
    | p + 2 =>
      have b := h1 1 (by omega)
      rw [bdR_1] at b
      have c : (bif decide (r.1 ≤ x) then decide (x < r.2) else false) = false := by
        rw [decide_eq_false (show ¬ x < r.2 by omega)]; cases decide (r.1 ≤ x) <;> rfl
      rw [c, memB_odd (p := p) hx (fun i hi => by have := h1 (i + 2) (by omega); rwa [bdR_2] at this) fun i hi => by have := h2 (i + 2) (by omega); rwa [bdR_2] at this]
      have : (p + 2) % 2 = p % 2 := by omega
      rw [this]; rfl
theorem memB_far {L : Rl} (h : valR L) {x : Int} (hx : 1048576 ≤ x) : memB L x = false := by
  rw [← Bool.not_eq_true, memB_iff]
  rintro ⟨r, hr, h1, h2⟩
  have := val_in h r hr
  omega
/-- The sweep's state: bounds passed, where the open run begins, is it open, the runs. -/
structure Swp (op : Bool → Bool → Bool) (A B : Rl) (pa pb : Nat) (from_ : Int) (ins : Bool) (res : Rl) (t : Int) : Prop where
  la : pa ≤ 2 * A.length
  lb : pb ≤ 2 * B.length
  a1 : ∀ i, i < pa → bdR A i ≤ t
  a2 : ∀ i, pa ≤ i → t < bdR A i
  b1 : ∀ i, i < pb → bdR B i ≤ t
  b2 : ∀ i, pb ≤ i → t < bdR B i
  t0 : -1048577 ≤ t
  t1 : t ≤ 1048576
  hin : ins = op (decide (pa % 2 = 1)) (decide (pb % 2 = 1))
  nr : Nr (-1048577) res
  en : endR (-1048577) res ≤ t
  mem : ∀ x, x ≤ t → (op (memB A x) (memB B x) = true ↔ memR res x ∨ (ins = true ∧ from_ ≤ x))
  fr : ins = true → endR (-1048577) res < from_ ∧ from_ ≤ t
  len : res.length ≤ pa + pb
theorem swp_start {op : Bool → Bool → Bool} {A B : Rl} (ha : valR A) (hb : valR B) (h0 : op false false = false) : Swp op A B 0 0 0 false [] (-1048577) where
  la := Nat.zero_le _
  lb := Nat.zero_le _
  a1 := fun i h => absurd h (Nat.not_lt_zero _)
  a2 := fun i _ => (bdR_up ha.1 ha.2 i (by omega)).1
  b1 := fun i h => absurd h (Nat.not_lt_zero _)
  b2 := fun i _ => (bdR_up hb.1 hb.2 i (by omega)).1
  t0 := Int.le_refl _
  t1 := by omega
  hin := h0.symm
  nr := trivial
  en := Int.le_refl _
  mem := fun x hx => by
    rw [memB_odd (p := 0) (L := A) (by omega) (fun i h => absurd h (Nat.not_lt_zero _)) (fun i _ => by have := (bdR_up ha.1 ha.2 i (by omega)).1; omega), memB_odd (p := 0) (L := B) (by omega) (fun i h => absurd h (Nat.not_lt_zero _)) (fun i _ => by have := (bdR_up hb.1 hb.2 i (by omega)).1; omega)]
    show op false false = true ↔ _
    rw [h0]; simp [memR_nil]
  fr := fun h => by cases h
  len := Nat.zero_le _
theorem swp_next {op : Bool → Bool → Bool} {A B : Rl} (ha : valR A) (hb : valR B) {pa pb : Nat} {from_ : Int} {ins : Bool} {res : Rl} {t : Int} (s : Swp op A B pa pb from_ ins res t) (hm : pa < 2 * A.length ∨ pb < 2 * B.length)
    {at_ : Int} (hat : at_ = min (bdR A pa) (bdR B pb)) {pa' pb' : Nat} (hpa : pa' = if bdR A pa = at_ then pa + 1 else pa) (hpb : pb' = if bdR B pb = at_ then pb + 1 else pb) {hd : Bool} (hh : hd = op (decide (pa' % 2 = 1)) (decide (pb' % 2 = 1))) :
    Swp op A B pa' pb' (bif (bif hd then !ins else false) then at_ else from_) hd (bif (bif ins then !hd else false) then res ++ [(from_, at_)] else res) at_ ∧ pa + pb < pa' + pb' := by
  have ua := fun i => bdR_up ha.1 ha.2 i (by omega)
  have ub := fun i => bdR_up hb.1 hb.2 i (by omega)
  have ta := s.a2 pa (Nat.le_refl _)
  have tb := s.b2 pb (Nat.le_refl _)
  have hlt : t < at_ := by omega
  have hle : at_ ≤ 1048576 := by
    rcases hm with h | h
    · have := ((ua pa).2 h).1; omega
    · have := ((ub pb).2 h).1; omega
  -- bounds behind
  have stepA : pa' ≤ 2 * A.length ∧ (∀ i, i < pa' → bdR A i ≤ at_) ∧ (∀ i, pa' ≤ i → at_ < bdR A i) := by
    by_cases e : bdR A pa = at_
    · rw [if_pos e] at hpa
      have hl : pa < 2 * A.length := by
        apply Classical.byContradiction
        intro h
        rw [bdR_end (by omega)] at e
        omega
      subst hpa
      refine ⟨hl, fun i hi => ?_, fun i hi => ?_⟩
      · by_cases e2 : i = pa
        · subst e2; omega
        · have := s.a1 i (by omega); omega
      · rw [← e]; exact ((ua pa).2 hl).2 i (by omega)
    · rw [if_neg e] at hpa
      subst hpa
      refine ⟨s.la, fun i hi => by have := s.a1 i hi; omega, fun i hi => ?_⟩
      have h1 : at_ < bdR A pa' := by omega
      by_cases e2 : i = pa'
      · subst e2; exact h1
      · by_cases hl : pa' < 2 * A.length
        · have := ((ua pa').2 hl).2 i (by omega); omega
        · rw [bdR_end (by omega)]; omega
  have stepB : pb' ≤ 2 * B.length ∧ (∀ i, i < pb' → bdR B i ≤ at_) ∧ (∀ i, pb' ≤ i → at_ < bdR B i) := by
    by_cases e : bdR B pb = at_
    · rw [if_pos e] at hpb
      have hl : pb < 2 * B.length := by
        apply Classical.byContradiction
        intro h
        rw [bdR_end (by omega)] at e
        omega
      subst hpb
      refine ⟨hl, fun i hi => ?_, fun i hi => ?_⟩
      · by_cases e2 : i = pb
        · subst e2; omega
        · have := s.b1 i (by omega); omega
      · rw [← e]; exact ((ub pb).2 hl).2 i (by omega)
    · rw [if_neg e] at hpb
      subst hpb
      refine ⟨s.lb, fun i hi => by have := s.b1 i hi; omega, fun i hi => ?_⟩
      have h1 : at_ < bdR B pb' := by omega
      by_cases e2 : i = pb'
      · subst e2; exact h1
      · by_cases hl : pb' < 2 * B.length
        · have := ((ub pb').2 hl).2 i (by omega); omega
        · rw [bdR_end (by omega)]; omega
  have more : pa + pb < pa' + pb' := by
    by_cases e : bdR A pa = at_
    · rw [if_pos e] at hpa
      have : pb ≤ pb' := by rw [hpb]; split <;> omega
      omega
    · have e2 : bdR B pb = at_ := by omega
      rw [if_neg e] at hpa
      rw [if_pos e2] at hpb
      omega
  -- between t and at_
  have mid : ∀ x, t < x → x < at_ → op (memB A x) (memB B x) = ins := fun x h1 h2 => by
    rw [memB_odd (p := pa) (L := A) (by omega) (fun i hi => by have := s.a1 i hi; omega) (fun i hi => ?_), memB_odd (p := pb) (L := B) (by omega) (fun i hi => by have := s.b1 i hi; omega) (fun i hi => ?_), ← s.hin]
    · by_cases e : i = pb
      · subst e; omega
      · by_cases hl : pb < 2 * B.length
        · have := ((ub pb).2 hl).2 i (by omega); omega
        · rw [bdR_end (by omega)]; omega
    · by_cases e : i = pa
      · subst e; omega
      · by_cases hl : pa < 2 * A.length
        · have := ((ua pa).2 hl).2 i (by omega); omega
        · rw [bdR_end (by omega)]; omega
  have fin : op (memB A at_) (memB B at_) = hd := by
    rw [memB_odd (p := pa') (L := A) (by omega) stepA.2.1 stepA.2.2, memB_odd (p := pb') (L := B) (by omega) stepB.2.1 stepB.2.2, hh]
  have out : ∀ x, t < x → ¬ memR res x := fun x hx h => by have := s.nr.lt_end h; have := s.en; omega
  have sen := s.en
  have slen := s.len
  refine ⟨?_, more⟩
  cases hi : ins <;> cases hd'' : hd
  · -- closed, closed
    exact { la := stepA.1, lb := stepB.1, a1 := stepA.2.1, a2 := stepA.2.2, b1 := stepB.2.1, b2 := stepB.2.2, t0 := by have := s.t0; omega, t1 := hle, hin := by rw [← hd'']; exact hh, nr := s.nr, en := by simp only [cond_false]; omega, fr := (fun h => by cases h), len := by simp only [cond_false]; omega
            mem := fun x hx => by
              simp only [cond_false]
              by_cases hxt : x ≤ t
              · rw [s.mem x hxt, hi]
              · have ho := out x (by omega)
                by_cases e : x = at_
                · subst e; rw [fin, hd'']; simp [ho]
                · rw [mid x (by omega) (by omega), hi]; simp [ho] }
  · -- opens
    exact { la := stepA.1, lb := stepB.1, a1 := stepA.2.1, a2 := stepA.2.2, b1 := stepB.2.1, b2 := stepB.2.2, t0 := by have := s.t0; omega, t1 := hle, hin := by rw [← hd'']; exact hh, nr := s.nr, en := by simp only [cond_false]; omega, fr := (fun _ => by simp only [cond_false, cond_true, Bool.not_false]; omega), len := by simp only [cond_false]; omega
            mem := fun x hx => by
              simp only [cond_false, cond_true, Bool.not_false]
              by_cases hxt : x ≤ t
              · rw [s.mem x hxt, hi]
                simp
                intro h; omega
              · have ho := out x (by omega)
                by_cases e : x = at_
                · subst e; rw [fin, hd'']; simp
                · rw [mid x (by omega) (by omega), hi]; simp [ho]; omega }
  · -- closes
    obtain ⟨f1, f2⟩ := s.fr hi
    exact { la := stepA.1, lb := stepB.1, a1 := stepA.2.1, a2 := stepA.2.2, b1 := stepB.2.1, b2 := stepB.2.2, t0 := by have := s.t0; omega, t1 := hle, hin := by rw [← hd'']; exact hh
            nr := (by simp only [cond_true, Bool.not_false]; exact Nr_app.2 ⟨s.nr, f1, by show from_ < at_; omega, trivial⟩)
            en := (by simp only [cond_true, Bool.not_false]; rw [endR_app]; exact Int.le_refl _)
            fr := (fun h => by cases h)
            len := (by simp only [cond_true, Bool.not_false, List.length_append, List.length_cons, List.length_nil]; omega)
            mem := fun x hx => by
              simp only [cond_true, Bool.not_false]
              rw [memR_app, memR_cons]
              simp only [memR_nil, or_false, Bool.false_eq_true, false_and]
              by_cases hxt : x ≤ t
              · rw [s.mem x hxt, hi]
                constructor
                · rintro (h | ⟨_, h⟩)
                  · exact .inl h
                  · exact .inr ⟨h, by omega⟩
                · rintro (h | ⟨h, _⟩)
                  · exact .inl h
                  · exact .inr ⟨rfl, h⟩
              · have ho := out x (by omega)
                by_cases e : x = at_
                · subst e; rw [fin, hd'']; simp [ho]
                · rw [mid x (by omega) (by omega), hi]
                  simp only [true_iff]
                  exact .inr ⟨by omega, by omega⟩ }
  · -- open, open
    obtain ⟨f1, f2⟩ := s.fr hi
    exact { la := stepA.1, lb := stepB.1, a1 := stepA.2.1, a2 := stepA.2.2, b1 := stepB.2.1, b2 := stepB.2.2, t0 := by have := s.t0; omega, t1 := hle, hin := by rw [← hd'']; exact hh, nr := s.nr, en := by simp only [cond_true, Bool.not_true, cond_false]; omega, fr := (fun _ => by simp only [cond_true, Bool.not_true, cond_false]; omega), len := by simp only [cond_true, Bool.not_true, cond_false]; omega
            mem := fun x hx => by
              simp only [cond_true, Bool.not_true, cond_false]
              by_cases hxt : x ≤ t
              · rw [s.mem x hxt, hi]; simp
              · by_cases e : x = at_
                · subst e; rw [fin, hd'']; simp; right; omega
                · rw [mid x (by omega) (by omega), hi]; simp; right; omega }
theorem swp_end {op : Bool → Bool → Bool} {A B : Rl} (ha : valR A) (hb : valR B) (h0 : op false false = false) {pa pb : Nat} {from_ : Int} {ins : Bool} {res : Rl} {t : Int} (s : Swp op A B pa pb from_ ins res t) (h1 : ¬ pa < 2 * A.length) (h2 : ¬ pb < 2 * B.length) :
    valR res ∧ res = nfR fun x => op (memB A x) (memB B x) = true := by
  have la := s.la
  have lb := s.lb
  have hi : ins = false := by
    rw [s.hin, show pa = 2 * A.length by omega, show pb = 2 * B.length by omega, decide_eq_false (by omega), decide_eq_false (by omega), h0]
  have en := s.en
  have t1 := s.t1
  refine ⟨⟨s.nr, by omega⟩, (nfR_eq s.nr fun x => ?_).symm⟩
  by_cases hx : x ≤ t
  · rw [s.mem x hx, hi]; simp
  · have ho : ¬ memR res x := fun h => by have := s.nr.lt_end h; omega
    have : op (memB A x) (memB B x) = false := by
      by_cases hf : x < 9223372036854775807
      · rw [memB_odd (p := pa) (L := A) hf (fun i hi => by have := s.a1 i hi; omega) (fun i hi => by rw [bdR_end (by omega)]; exact hf), memB_odd (p := pb) (L := B) hf (fun i hi => by have := s.b1 i hi; omega) (fun i hi => by rw [bdR_end (by omega)]; exact hf), show pa = 2 * A.length by omega, show pb = 2 * B.length by omega, decide_eq_false (by omega), decide_eq_false (by omega), h0]
      · rw [memB_far ha (by omega), memB_far hb (by omega), h0]
    rw [this]; simp [ho]
end Go.Proofs.Ytacgchandefjgaa

namespace Go.Proofs.Ytacgchandefjgaa
def opE (an : Int) (p q : Bool) : Bool := bif an == (2 : Int) then (p || q) else bif an == (1 : Int) then (p && q) else bif an == (0 : Int) then (p && !q) else false
noncomputable def chL (A B : Rl) (an : Int) : Rl := bif valB A && valB B then nfR (fun x => opE an (memB A x) (memB B x) = true) else []
theorem opE_ff (an : Int) : opE an false false = false := by
  unfold opE
  cases an == (2 : Int) <;> cases an == (1 : Int) <;> cases an == (0 : Int) <;> rfl
theorem opE_2 (p q : Bool) : opE 2 p q = (p || q) := rfl
theorem opE_1 (p q : Bool) : opE 1 p q = (p && q) := rfl
theorem opE_0 (p q : Bool) : opE 0 p q = (p && !q) := rfl
theorem cho_mem (A B : Rl) (an : Int) (x : Int) : memR (seg (fun x => opE an (memB A x) (memB B x)) (bsR (A ++ B))) x ↔ opE an (memB A x) (memB B x) = true := by
  have sA : ∀ r ∈ A, r ∈ A ++ B := fun r h => List.mem_append_left _ h
  have sB : ∀ r ∈ B, r ∈ A ++ B := fun r h => List.mem_append_right _ h
  refine seg_mem (fun x => opE an (memB A x) (memB B x)) (bsR_asc _) (fun y hy x hyx hz => ?_) (fun x hx => ?_) (fun x hx => ?_) x
  · show opE an (memB A x) (memB B x) = opE an (memB A y) (memB B y)
    rw [memB_const sA hyx hz, memB_const sB hyx hz]
  · show opE an (memB A x) (memB B x) = false
    rw [memB_low sA hx, memB_low sB hx, opE_ff]
  · show opE an (memB A x) (memB B x) = false
    rw [memB_high sA hx, memB_high sB hx, opE_ff]
theorem cho_nf (A B : Rl) (an : Int) : mrgR (seg (fun x => opE an (memB A x) (memB B x)) (bsR (A ++ B))) = nfR (fun x => opE an (memB A x) (memB B x) = true) :=
  seg_nf _ (bsR_asc _) (cho_mem A B an)
theorem ch_ok {A B : Rl} (ha : valR A) (hb : valR B) (an : Int) : valR (chL A B an) ∧ ∀ x, memB (chL A B an) x = opE an (memB A x) (memB B x) := by
  have bd : ∀ y ∈ bsR (A ++ B), -1048576 ≤ y ∧ y ≤ 1048576 := fun y hy => by
    obtain ⟨r, hr, _, h⟩ := bsR_mem.1 hy
    have : -1048576 ≤ r.1 ∧ r.1 < r.2 ∧ r.2 ≤ 1048576 := by
      rcases List.mem_append.1 hr with h | h
      · exact val_in ha r h
      · exact val_in hb r h
    rcases h with rfl | rfl <;> omega
  have e : chL A B an = mrgR (seg (fun x => opE an (memB A x) (memB B x)) (bsR (A ++ B))) := by
    unfold chL
    rw [valB_of ha, valB_of hb, cho_nf]; rfl
  have hv := seg_val (fun x => opE an (memB A x) (memB B x)) (bsR_asc (A ++ B)) bd
  rw [e]
  refine ⟨hv, fun x => ?_⟩
  obtain ⟨s1, s2⟩ := seg_ok (fun x => opE an (memB A x) (memB B x)) (bsR_asc (A ++ B))
  obtain ⟨_, m2, _⟩ := mrgR_ok (lo := -1048577) (fun r hr => ⟨(s1 r hr).1, by have := bd _ (s1 r hr).2.1; omega⟩) s2
  rw [Bool.eq_iff_iff, memB_iff, m2, cho_mem]
/-! Regions. -/
abbrev Rg : Type := List (Int × Rl)
def rowOk (r : Int × Rl) : Prop := -4096 ≤ r.1 ∧ r.1 < 4096 ∧ r.2 ≠ [] ∧ Nr (-4097) r.2 ∧ endR (-4097) r.2 ≤ 4096
def Ng : Int → Rg → Prop
  | _, [] => True
  | lo, r :: R => lo < r.1 ∧ rowOk r ∧ Ng r.1 R
def valG (R : Rg) : Prop := Ng (-4097) R
noncomputable def valGB (R : Rg) : Bool := @decide (valG R) (Classical.propDecidable _)
theorem valGB_iff {R : Rg} : valGB R = true ↔ valG R := by unfold valGB; simp
theorem valGB_t {R : Rg} (h : valG R) : valGB R = true := valGB_iff.2 h
theorem valGB_f {R : Rg} (h : ¬ valG R) : valGB R = false := by rw [← Bool.not_eq_true]; exact fun e => h (valGB_iff.1 e)
def memG (R : Rg) (x y : Int) : Bool := R.any fun r => decide (r.1 = y) && memB r.2 x
theorem memG_nil (x y : Int) : memG [] x y = false := rfl
theorem memG_cons (r : Int × Rl) (R : Rg) (x y : Int) : memG (r :: R) x y = ((decide (r.1 = y) && memB r.2 x) || memG R x y) := List.any_cons
theorem memG_app (A B : Rg) (x y : Int) : memG (A ++ B) x y = (memG A x y || memG B x y) := List.any_append
theorem Ng.low : ∀ {R : Rg} {lo x y : Int}, Ng lo R → y ≤ lo → memG R x y = false
  | [], _, _, _, _, _ => rfl
  | r :: R, lo, x, y, ⟨h1, _, h3⟩, hy => by
    rw [memG_cons, decide_eq_false (show ¬ r.1 = y by omega), h3.low (x := x) (y := y) (by omega)]; rfl
theorem Ng.weak : ∀ {R : Rg} {lo lo' : Int}, Ng lo R → lo' ≤ lo → Ng lo' R
  | [], _, _, _, _ => trivial
  | _ :: _, _, _, ⟨h1, h2, h3⟩, h => ⟨by omega, h2, h3⟩
theorem rowOk_some {r : Int × Rl} (h : rowOk r) : ∃ x, memB r.2 x = true := by
  obtain ⟨_, _, h3, h4, _⟩ := h
  cases hr : r.2 with
  | nil => exact absurd hr h3
  | cons q L =>
    rw [hr] at h4
    exact ⟨q.1, memB_iff.2 (memR_cons.2 (.inl ⟨Int.le_refl _, h4.2.1⟩))⟩
theorem memB_ext {A B : Rl} {lo lo' : Int} (ha : Nr lo A) (hb : Nr lo' B) (h : ∀ x, memB A x = memB B x) : A = B := canon_R ha hb fun x => by rw [← memB_iff, ← memB_iff, h]
theorem canonG : ∀ {A B : Rg} {lo lo' : Int}, Ng lo A → Ng lo' B → (∀ x y, memG A x y = memG B x y) → A = B
  | [], [], _, _, _, _, _ => rfl
  | [], b :: B, _, _, _, ⟨_, h2, _⟩, h => by
    obtain ⟨x, hx⟩ := rowOk_some h2
    have := h x b.1
    rw [memG_nil, memG_cons, hx, decide_eq_true rfl] at this; cases this
  | a :: A, [], _, _, ⟨_, h2, _⟩, _, h => by
    obtain ⟨x, hx⟩ := rowOk_some h2
    have := h x a.1
    rw [memG_nil, memG_cons, hx, decide_eq_true rfl] at this; cases this
  | a :: A, b :: B, _, _, ⟨_, a2, a3⟩, ⟨_, b2, b3⟩, h => by
    have e1 : a.1 = b.1 := by
      rcases Int.lt_trichotomy a.1 b.1 with g | g | g
      · obtain ⟨x, hx⟩ := rowOk_some a2
        have := h x a.1
        rw [memG_cons, memG_cons, hx, decide_eq_true rfl, decide_eq_false (show ¬ b.1 = a.1 by omega), b3.low (by omega)] at this; cases this
      · exact g
      · obtain ⟨x, hx⟩ := rowOk_some b2
        have := h x b.1
        rw [memG_cons, memG_cons, hx, decide_eq_true rfl, decide_eq_false (show ¬ a.1 = b.1 by omega), a3.low (by omega)] at this; cases this
    have e2 : a.2 = b.2 := memB_ext a2.2.2.2.1 b2.2.2.2.1 fun x => by
      have := h x a.1
      rw [memG_cons, memG_cons, decide_eq_true rfl, decide_eq_true e1.symm, a3.low (Int.le_refl _), b3.low (by omega)] at this
      simpa using this
    have e3 : A = B := canonG a3 b3 fun x y => by
      by_cases g : y = a.1
      · rw [a3.low (by omega), b3.low (by omega)]
      · have := h x y
        rw [memG_cons, memG_cons, decide_eq_false (show ¬ a.1 = y by omega), decide_eq_false (show ¬ b.1 = y by omega)] at this
        simpa using this
    rw [e3, show a = b from Prod.ext e1 e2]
theorem end_mem : ∀ {L : Rl} {lo : Int}, Nr lo L → L ≠ [] → memR L (endR lo L - 1)
  | [], _, _, h => absurd rfl h
  | q :: L, lo, ⟨_, h2, h3⟩, _ => by
    show memR (q :: L) (endR q.2 L - 1)
    cases L with
    | nil => exact memR_cons.2 (.inl ⟨by show q.1 ≤ q.2 - 1; omega, by show q.2 - 1 < q.2; omega⟩)
    | cons r M => exact memR_cons.2 (.inr (end_mem h3 (by simp)))
theorem nr_range {L : Rl} (h : valR L) (hm : ∀ x, memB L x = true → -4096 ≤ x ∧ x < 4096) : Nr (-4097) L ∧ endR (-4097) L ≤ 4096 := by
  cases L with
  | nil => exact ⟨trivial, by decide⟩
  | cons q M =>
    have h1 : Nr (-4097) (q :: M) := ⟨by have := (hm q.1 (memB_iff.2 (memR_cons.2 (.inl ⟨Int.le_refl _, h.1.2.1⟩)))).1; omega, h.1.2⟩
    exact ⟨h1, by have := (hm _ (memB_iff.2 (end_mem h1 (by simp)))).2; omega⟩
theorem rowOk_val {r : Int × Rl} (h : rowOk r) : valR r.2 := by
  obtain ⟨_, _, h3, h4, h5⟩ := h
  exact ⟨h4.weak (by omega), by rw [endR_any r.2 _ (-4097) h3]; omega⟩
theorem rowOk_in {r : Int × Rl} (h : rowOk r) {x : Int} (hx : memB r.2 x = true) : -4096 ≤ x ∧ x < 4096 := by
  have a := h.2.2.2.1.gt (memB_iff.1 hx)
  have b := h.2.2.2.1.lt_end (memB_iff.1 hx)
  have := h.2.2.2.2
  omega
theorem valR_nil : valR [] := ⟨trivial, by decide⟩
/-- The rows of one Y, and the others. -/
def spl (R : Rg) (y : Int) : Rl × Rg :=
  match R with
  | [] => ([], [])
  | r :: R' => bif decide (r.1 = y) then (r.2, R') else ([], r :: R')
def lowG (A B : Rg) : Int :=
  match A, B with
  | [], [] => 0
  | [], b :: _ => b.1
  | a :: _, [] => a.1
  | a :: _, b :: _ => min a.1 b.1
def emit (y : Int) (l : Rl) : Rg := bif decide (0 < l.length) then [(y, l)] else []
noncomputable def combG (an : Int) : Nat → Rg → Rg → Rg
  | 0, _, _ => []
  | n + 1, A, B => bif (decide (0 < A.length) || decide (0 < B.length)) then emit (lowG A B) (chL (spl A (lowG A B)).1 (spl B (lowG A B)).1 an) ++ combG an n (spl A (lowG A B)).2 (spl B (lowG A B)).2 else []
noncomputable def opR (an : Int) (A B : Rg) : Rg := bif valGB A && valGB B then combG an (A.length + B.length) A B else []
theorem spl_ok {A : Rg} {lo y0 : Int} (h : Ng lo A) (hy : ∀ r ∈ A, y0 ≤ r.1) : Ng y0 (spl A y0).2 ∧ (∀ x, memB (spl A y0).1 x = memG A x y0) ∧ (∀ x y, y ≠ y0 → memG (spl A y0).2 x y = memG A x y) ∧ valR (spl A y0).1 ∧ (∀ x, memB (spl A y0).1 x = true → -4096 ≤ x ∧ x < 4096) ∧ (spl A y0).2.length ≤ A.length := by
  cases A with
  | nil => exact ⟨trivial, fun _ => rfl, fun _ _ _ => rfl, valR_nil, (fun x hx => by cases hx), Nat.le_refl _⟩
  | cons a A =>
    obtain ⟨h1, h2, h3⟩ := h
    by_cases g : a.1 = y0
    · have e : spl (a :: A) y0 = (a.2, A) := by
        show (bif decide (a.1 = y0) then (a.2, A) else ([], a :: A)) = _
        rw [decide_eq_true g]; rfl
      rw [e]
      refine ⟨g ▸ h3, fun x => ?_, fun x y hxy => ?_, rowOk_val h2, fun x hx => rowOk_in h2 hx, by simp⟩
      · rw [memG_cons, decide_eq_true g, h3.low (by omega)]; simp
      · rw [memG_cons, decide_eq_false (show ¬ a.1 = y by omega)]; rfl
    · have e : spl (a :: A) y0 = ([], a :: A) := by
        show (bif decide (a.1 = y0) then (a.2, A) else ([], a :: A)) = _
        rw [decide_eq_false g]; rfl
      rw [e]
      have gy : y0 < a.1 := by have := hy a (List.mem_cons_self ..); omega
      have hN : Ng y0 (a :: A) := ⟨gy, h2, h3⟩
      exact ⟨hN, fun x => (hN.low (Int.le_refl _)).symm, fun _ _ _ => rfl, valR_nil, (fun x hx => by cases hx), Nat.le_refl _⟩
theorem Ng.head : ∀ {R : Rg} {lo : Int}, Ng lo R → ∀ r ∈ R, lo < r.1
  | [], _, _, r, hr => by cases hr
  | q :: R, lo, ⟨h1, _, h3⟩, r, hr => by
    rcases List.mem_cons.1 hr with rfl | hr
    · exact h1
    · have := h3.head r hr; omega
theorem Ng.rows : ∀ {R : Rg} {lo : Int}, Ng lo R → ∀ r ∈ R, rowOk r
  | [], _, _, r, hr => by cases hr
  | q :: R, lo, ⟨_, h2, h3⟩, r, hr => by
    rcases List.mem_cons.1 hr with rfl | hr
    · exact h2
    · exact h3.rows r hr
theorem low_ok {A B : Rg} {lo : Int} (ha : Ng lo A) (hb : Ng lo B) (h : 0 < A.length ∨ 0 < B.length) : lo < lowG A B ∧ -4096 ≤ lowG A B ∧ lowG A B < 4096 ∧ (∀ r ∈ A, lowG A B ≤ r.1) ∧ (∀ r ∈ B, lowG A B ≤ r.1) ∧ (spl A (lowG A B)).2.length + (spl B (lowG A B)).2.length < A.length + B.length := by
  have hle : ∀ (r : Int × Rl) (R : Rg) (y : Int), y ≤ r.1 → Ng r.1 R → ∀ q ∈ r :: R, y ≤ q.1 := fun r R y hy hR q hq => by
    rcases List.mem_cons.1 hq with rfl | hq
    · exact hy
    · have := hR.head q hq; omega
  have se : ∀ (r : Int × Rl) (R : Rg), (spl (r :: R) r.1).2.length < (r :: R).length := fun r R => by
    show (bif decide (r.1 = r.1) then (r.2, R) else ([], r :: R)).2.length < (r :: R).length
    rw [decide_eq_true rfl]
    show R.length < R.length + 1
    omega
  have sl : ∀ (R : Rg) (y : Int), (spl R y).2.length ≤ R.length := fun R y => by
    cases R with
    | nil => exact Nat.le_refl _
    | cons r R =>
      show (bif decide (r.1 = y) then (r.2, R) else ([], r :: R)).2.length ≤ (r :: R).length
      cases decide (r.1 = y)
      · exact Nat.le_refl _
      · exact Nat.le_succ _
  cases A with
  | nil =>
    cases B with
    | nil => simp at h
    | cons b B =>
      obtain ⟨b1, b2, b3⟩ := hb
      refine ⟨b1, b2.1, b2.2.1, (fun r hr => by cases hr), hle b B _ (Int.le_refl _) b3, ?_⟩
      have := se b B
      show (spl [] b.1).2.length + (spl (b :: B) b.1).2.length < _
      have e : (spl [] b.1).2.length = 0 := rfl
      rw [e, List.length_nil]; omega
  | cons a A =>
    obtain ⟨a1, a2, a3⟩ := ha
    cases B with
    | nil =>
      refine ⟨a1, a2.1, a2.2.1, hle a A _ (Int.le_refl _) a3, (fun r hr => by cases hr), ?_⟩
      have := se a A
      show (spl (a :: A) a.1).2.length + (spl [] a.1).2.length < _
      have e : (spl [] a.1).2.length = 0 := rfl
      rw [e, List.length_nil]; omega
    | cons b B =>
      obtain ⟨b1, b2, b3⟩ := hb
      show lo < min a.1 b.1 ∧ -4096 ≤ min a.1 b.1 ∧ min a.1 b.1 < 4096 ∧ (∀ r ∈ a :: A, min a.1 b.1 ≤ r.1) ∧ (∀ r ∈ b :: B, min a.1 b.1 ≤ r.1) ∧ (spl (a :: A) (min a.1 b.1)).2.length + (spl (b :: B) (min a.1 b.1)).2.length < _
      have := a2.1; have := a2.2.1; have := b2.1; have := b2.2.1
      refine ⟨by omega, by omega, by omega, hle a A _ (by omega) a3, hle b B _ (by omega) b3, ?_⟩
      rcases (show min a.1 b.1 = a.1 ∨ min a.1 b.1 = b.1 by omega) with e | e
      · rw [e]; have := se a A; have := sl (b :: B) a.1; omega
      · rw [e]; have := se b B; have := sl (a :: A) b.1; omega
theorem comb_ok (an : Int) : ∀ (n : Nat) {A B : Rg} {lo : Int}, A.length + B.length ≤ n → Ng lo A → Ng lo B → Ng lo (combG an n A B) ∧ ∀ x y, memG (combG an n A B) x y = opE an (memG A x y) (memG B x y)
  | 0, A, B, lo, hn, _, _ => by
    have e1 : A = [] := List.length_eq_zero_iff.1 (by omega)
    have e2 : B = [] := List.length_eq_zero_iff.1 (by omega)
    subst e1 e2
    exact ⟨trivial, fun x y => (opE_ff an).symm⟩
  | n + 1, A, B, lo, hn, ha, hb => by
    by_cases g : 0 < A.length ∨ 0 < B.length
    · have gd : (decide (0 < A.length) || decide (0 < B.length)) = true := by rw [Bool.or_eq_true, decide_eq_true_eq, decide_eq_true_eq]; exact g
      obtain ⟨l1, l2, l3, l4, l5, l6⟩ := low_ok ha hb g
      obtain ⟨a1, a2, a3, a4, a5, _⟩ := spl_ok ha l4
      obtain ⟨b1, b2, b3, b4, b5, _⟩ := spl_ok hb l5
      obtain ⟨c1, c2⟩ := ch_ok a4 b4 an
      obtain ⟨i1, i2⟩ := comb_ok an n (by omega) a1 b1
      unfold combG
      rw [gd, cond_true]
      generalize lowG A B = y0 at *
      generalize combG an n (spl A y0).2 (spl B y0).2 = rest at *
      generalize chL (spl A y0).1 (spl B y0).1 an = l at *
      have hin : ∀ x, memB l x = true → -4096 ≤ x ∧ x < 4096 := fun x hx => by
        rw [c2] at hx
        cases p : memB (spl A y0).1 x
        · cases q : memB (spl B y0).1 x
          · rw [p, q, opE_ff] at hx; cases hx
          · exact b5 x q
        · exact a5 x p
      have em : memG (emit y0 l) = fun x y => decide (y0 = y) && memB l x := by
        funext x y
        unfold emit
        by_cases h0 : 0 < l.length
        · rw [decide_eq_true h0, cond_true, memG_cons, memG_nil, Bool.or_false]
        · have : l = [] := List.length_eq_zero_iff.1 (by omega)
          rw [decide_eq_false h0, cond_false, memG_nil, this]
          exact (Bool.and_false _).symm
      refine ⟨?_, fun x y => ?_⟩
      · unfold emit
        by_cases h0 : 0 < l.length
        · rw [decide_eq_true h0, cond_true]
          obtain ⟨r1, r2⟩ := nr_range c1 hin
          exact ⟨l1, ⟨l2, l3, (fun e => by have e : l = [] := e; rw [e] at h0; exact absurd h0 (by decide)), r1, r2⟩, i1⟩
        · rw [decide_eq_false h0, cond_false]
          exact i1.weak (by omega)
      · rw [memG_app, em, i2]
        show ((decide (y0 = y) && memB l x) || _) = _
        by_cases hy : y = y0
        · subst hy
          rw [a1.low (Int.le_refl _), b1.low (Int.le_refl _), opE_ff, decide_eq_true rfl, c2, a2, b2]
          simp
        · rw [decide_eq_false (show ¬ y0 = y from fun e => hy e.symm), a3 x y hy, b3 x y hy]; simp
    · have gd : (decide (0 < A.length) || decide (0 < B.length)) = false := by
        rw [← Bool.not_eq_true, Bool.or_eq_true, decide_eq_true_eq, decide_eq_true_eq]; exact g
      have e1 : A = [] := List.length_eq_zero_iff.1 (by omega)
      have e2 : B = [] := List.length_eq_zero_iff.1 (by omega)
      unfold combG
      rw [gd, cond_false]
      subst e1 e2
      exact ⟨trivial, fun x y => (opE_ff an).symm⟩
theorem combG_nil (an : Int) : ∀ n, combG an n [] [] = []
  | 0 => rfl
  | _ + 1 => rfl
theorem valG_nil : valG [] := trivial
theorem opR_val (an : Int) (A B : Rg) : valG (opR an A B) := by
  unfold opR
  cases ha : valGB A
  · exact trivial
  · cases hb : valGB B
    · exact trivial
    · exact (comb_ok an _ (Nat.le_refl _) (valGB_iff.1 ha) (valGB_iff.1 hb)).1
theorem opR_mem {A B : Rg} (ha : valG A) (hb : valG B) (an x y : Int) : memG (opR an A B) x y = opE an (memG A x y) (memG B x y) := by
  unfold opR
  rw [valGB_t ha, valGB_t hb]
  exact (comb_ok an _ (Nat.le_refl _) ha hb).2 x y
theorem val_ext {A B : Rg} (ha : valG A) (hb : valG B) (h : ∀ x y, memG A x y = memG B x y) : A = B := canonG ha hb h
theorem empty_G {A : Rg} (ha : valG A) (h : ∀ x y, memG A x y = false) : A = [] := val_ext ha valG_nil h
/-! Sizes. -/
theorem nr_len : ∀ {L : Rl} {lo : Int}, Nr lo L → lo + 2 * L.length ≤ endR lo L
  | [], lo, _ => by show lo + 2 * ((0 : Nat) : Int) ≤ lo; omega
  | q :: L, lo, ⟨h1, h2, h3⟩ => by
    have := nr_len h3
    show lo + 2 * ((L.length + 1 : Nat) : Int) ≤ endR q.2 L
    omega
theorem row_len {r : Int × Rl} (h : rowOk r) : r.2.length ≤ 4096 := by
  have := nr_len h.2.2.2.1
  have := h.2.2.2.2
  omega
theorem ng_len : ∀ {R : Rg} {lo : Int}, Ng lo R → lo ≤ 4095 → lo + R.length ≤ 4095
  | [], lo, _, h => by show lo + ((0 : Nat) : Int) ≤ 4095; omega
  | q :: L, lo, ⟨h1, h2, h3⟩, _ => by
    have := ng_len h3 (by have := h2.2.1; omega)
    show lo + ((L.length + 1 : Nat) : Int) ≤ 4095
    omega
def szG (R : Rg) : Bool := decide ((R.length : Int) ≤ 9223372036854775807) && R.all fun r => decide ((r.2.length : Int) ≤ 9223372036854775807)
theorem val_sz {R : Rg} (h : valG R) : szG R = true := by
  unfold szG
  have := ng_len h (by omega)
  rw [decide_eq_true (show (R.length : Int) ≤ 9223372036854775807 by omega), Bool.true_and, List.all_eq_true]
  exact fun r hr => decide_eq_true (by have := row_len (Ng.rows h r hr); omega)
theorem sz_len {R : Rg} (h : szG R = true) : (R.length : Int) ≤ 9223372036854775807 := by
  unfold szG at h
  rw [Bool.and_eq_true, decide_eq_true_eq] at h
  exact h.1
theorem sz_row {R : Rg} (h : szG R = true) {i : Nat} (hi : i < R.length) : (R[i].2.length : Int) ≤ 9223372036854775807 := by
  unfold szG at h
  rw [Bool.and_eq_true, List.all_eq_true] at h
  exact of_decide_eq_true (h.2 _ (List.getElem_mem hi))
/-- Validity, row by row. -/
def goodG (lo : Int) (R : Rg) (i : Nat) (h : i < R.length) : Prop := rowOk R[i] ∧ lo < R[i].1 ∧ (∀ h0 : 0 < i, (R[i - 1]'(by omega)).1 < R[i].1)
theorem ng_good : ∀ {R : Rg} {lo : Int}, Ng lo R ↔ ∀ i h, goodG lo R i h
  | [], lo => ⟨fun _ i h => absurd h (by simp), fun _ => trivial⟩
  | r :: R, lo => by
    have ih := ng_good (R := R) (lo := r.1)
    constructor
    · rintro ⟨h1, h2, h3⟩ i hi
      cases i with
      | zero => exact ⟨h2, h1, fun h0 => absurd h0 (Nat.lt_irrefl _)⟩
      | succ i =>
        obtain ⟨k1, k2, k3⟩ := ih.1 h3 i (by simpa using hi)
        have hi' : i < R.length := by simpa using hi
        refine ⟨k1, by show lo < R[i].1; omega, fun _ => ?_⟩
        cases i with
        | zero => exact k2
        | succ i => exact k3 (by omega)
    · intro h
      have h0 := h 0 (by simp)
      refine ⟨h0.2.1, h0.1, ih.2 fun i hi => ?_⟩
      have hs := h (i + 1) (by simpa using hi)
      have hs3 := hs.2.2 (by omega)
      have aux : ∀ j (hj : j < R.length), r.1 < R[j].1 := by
        intro j
        induction j with
        | zero => exact fun hj => (h 1 (by simpa using hj)).2.2 (by omega)
        | succ j ihj =>
          intro hj
          have k0 := ihj (by omega)
          have k : R[j].1 < R[j + 1].1 := (h (j + 2) (by rw [List.length_cons]; omega)).2.2 (by omega)
          omega
      refine ⟨hs.1, aux i hi, fun hp => ?_⟩
      obtain ⟨i, rfl⟩ : ∃ k, i = k + 1 := ⟨i - 1, by omega⟩
      exact hs3
theorem valG_good {R : Rg} : valG R ↔ ∀ i h, goodG (-4097) R i h := ng_good
theorem room32 {n : Nat} (h : n ≤ 100000) : decide (n * (32 : Nat) ≤ maxNew) = true ∧ decide (n ≤ maxLen) = true := ⟨decide_eq_true (by unfold maxNew; omega), decide_eq_true (by unfold maxLen; omega)⟩
/-! A row's runs. -/
def fineR (L : Rl) : Prop := L ≠ [] ∧ Nr (-4097) L ∧ endR (-4097) L ≤ 4096
noncomputable def fineB (L : Rl) : Bool := @decide (fineR L) (Classical.propDecidable _)
noncomputable def rowB (y : Int) (L : Rl) : Bool := @decide (rowOk (y, L)) (Classical.propDecidable _)
theorem fineB_iff {L : Rl} : fineB L = true ↔ fineR L := by unfold fineB; simp
theorem rowB_iff {y : Int} {L : Rl} : rowB y L = true ↔ rowOk (y, L) := by unfold rowB; simp
theorem rowOk_iff {y : Int} {L : Rl} : rowOk (y, L) ↔ -4096 ≤ y ∧ y < 4096 ∧ fineR L := Iff.rfl
theorem rowB_eq (y : Int) (L : Rl) : rowB y L = (decide (-4096 ≤ y) && (decide (y < 4096) && fineB L)) := by
  rw [Bool.eq_iff_iff, rowB_iff, rowOk_iff, Bool.and_eq_true, Bool.and_eq_true, decide_eq_true_eq, decide_eq_true_eq, fineB_iff]
theorem endR_lt : ∀ {N : Int} {M : Rl} {lo : Int}, lo ≤ N → (∀ r ∈ M, r.2 ≤ N) → endR lo M ≤ N
  | _, [], _, h, _ => h
  | _, r :: M, _, _, h => endR_lt (M := M) (h r (List.mem_cons_self ..)) fun q hq => h q (List.mem_cons_of_mem _ hq)
theorem le_endR : ∀ {L : Rl} {lo : Int}, Nr lo L → ∀ r ∈ L, r.2 ≤ endR lo L
  | [], _, _, r, hr => by cases hr
  | q :: L, lo, ⟨_, _, h3⟩, r, hr => by
    rcases List.mem_cons.1 hr with rfl | hr
    · exact h3.le_end
    · exact le_endR h3 r hr
theorem fine_good {L : Rl} : (Nr (-4097) L ∧ endR (-4097) L ≤ 4096) ↔ ∀ i (h : i < L.length), good (-4097) L i h ∧ L[i].2 ≤ 4096 := by
  constructor
  · rintro ⟨h1, h2⟩ i hi
    exact ⟨(val_good (by omega)).1 ⟨h1, by omega⟩ i hi, by have := le_endR h1 _ (List.getElem_mem hi); omega⟩
  · intro h
    obtain ⟨h1, _⟩ := (val_good (lo := -4097) (by omega)).2 fun i hi => (h i hi).1
    refine ⟨h1, endR_lt (by omega) fun r hr => ?_⟩
    obtain ⟨i, hi, rfl⟩ := List.mem_iff_getElem.1 hr
    exact (h i hi).2
theorem fine_ends {L : Rl} (h : valR L) (h0 : 0 < L.length) : fineR L ↔ -4096 ≤ L[0].1 ∧ (L[L.length - 1]'(by omega)).2 ≤ 4096 := by
  have hne : L ≠ [] := fun e => by subst e; exact absurd h0 (by decide)
  constructor
  · rintro ⟨_, h1, h2⟩
    refine ⟨?_, by have := le_endR h1 _ (List.getElem_mem (show L.length - 1 < L.length by omega)); omega⟩
    cases L with
    | nil => exact absurd rfl hne
    | cons q M => have := h1.1; show -4096 ≤ q.1; omega
  · rintro ⟨h1, h2⟩
    refine ⟨hne, ?_, endR_lt (by omega) fun r hr => ?_⟩
    · cases L with
      | nil => exact absurd rfl hne
      | cons q M => exact ⟨by have : -4096 ≤ q.1 := h1; omega, h.1.2⟩
    · have := (val_ends h h0 r hr).2; omega
theorem row_in {L : Rl} (h : fineR L) : ∀ r ∈ L, -4096 ≤ r.1 ∧ r.1 < r.2 ∧ r.2 ≤ 4096 := fun r hr => by
  have a := le_endR h.2.1 r hr
  have b := h.2.1.pair.2 r hr
  have := h.2.2
  omega
/-! Counts. -/
def cntG (R : Rg) : Int := (R.map fun r => lenR r.2).sum
noncomputable def cntV (R : Rg) : Int := bif valGB R then cntG R else 0
theorem lenR_row {r : Int × Rl} (h : rowOk r) : 0 ≤ lenR r.2 ∧ lenR r.2 ≤ 2097153 := lenR_le (rowOk_val h)
theorem cntG_take {R : Rg} {j : Nat} (hj : j < R.length) : cntG (R.take (j + 1)) = cntG (R.take j) + lenR R[j].2 := by
  unfold cntG
  rw [List.take_succ_eq_append_getElem hj, List.map_append, List.sum_append]
  simp only [List.map_cons, List.map_nil, List.sum_cons, List.sum_nil, Int.add_zero]
theorem cntG_bd {R : Rg} (h : valG R) : ∀ j, j ≤ R.length → 0 ≤ cntG (R.take j) ∧ cntG (R.take j) ≤ 2097153 * j
  | 0, _ => by simp [cntG]
  | j + 1, hj => by
    have ih := cntG_bd h j (by omega)
    have := lenR_row (Ng.rows h _ (List.getElem_mem (show j < R.length by omega)))
    rw [cntG_take (by omega)]
    omega
theorem memB_of {L : Rl} {x : Int} (f : Int × Int → Bool) (hf : f = fun r => !(bif decide (r.1 ≤ x) then decide (x < r.2) else false)) : (L.all f) = !memB L x := by
  subst hf
  unfold memB
  rw [List.all_eq_not_any_not]
  simp
theorem wi2 {i n : Nat} (h : i < n) (hn : (n : Int) ≤ 9223372036854775807) : IntKind.wrap IntKind.i64 ((i : Int) + (1 : Int)) = ((i + 1 : Nat) : Int) := by
  rw [wid (by omega) (by omega)]; omega
end Go.Proofs.Ytacgchandefjgaa

namespace Go.Proofs.Ytacgchandefjgaa
theorem sz_nil : szG [] = true := rfl
theorem op1_nil (X : Rg) : opR 1 [] X = [] := by
  cases hx : valGB X
  · unfold opR; rw [hx, Bool.and_false]; rfl
  · exact empty_G (opR_val 1 [] X) fun x y => by rw [opR_mem valG_nil (valGB_iff.1 hx)]; rfl
theorem op2_nil {X : Rg} (h : valG X) : opR 2 X [] = X := val_ext (opR_val _ _ _) h fun x y => by
  rw [opR_mem h valG_nil, opE_2, memG_nil, Bool.or_false]
theorem op0_r {X : Rg} (h : valG X) : opR 0 X [] = X := val_ext (opR_val _ _ _) h fun x y => by
  rw [opR_mem h valG_nil, opE_0, memG_nil]; simp
theorem op1_self {X : Rg} (h : valG X) : opR 1 X X = X := val_ext (opR_val _ _ _) h fun x y => by
  rw [opR_mem h h, opE_1, Bool.and_self]
theorem op0_self {X : Rg} (h : valG X) : opR 0 X X = [] := empty_G (opR_val _ _ _) fun x y => by
  rw [opR_mem h h, opE_0]; cases memG X x y <;> rfl
theorem op1_r (X : Rg) : opR 1 X [] = [] := by
  cases hx : valGB X
  · unfold opR; rw [hx, Bool.false_and]; rfl
  · exact empty_G (opR_val 1 X []) fun x y => by rw [opR_mem (valGB_iff.1 hx) valG_nil, opE_1, memG_nil, Bool.and_false]
/-- A region, cut with the first n of others. -/
noncomputable def foldG (f : Nat → Rg) : Nat → Rg → Rg
  | 0, s => s
  | n + 1, s => opR 1 (foldG f n s) (f n)
theorem foldG_val {f : Nat → Rg} {s : Rg} (hs : valG s) : ∀ n, valG (foldG f n s)
  | 0 => hs
  | _ + 1 => opR_val _ _ _
theorem foldG_nil (f : Nat → Rg) : ∀ n, foldG f n [] = []
  | 0 => rfl
  | n + 1 => by show opR 1 (foldG f n []) (f n) = []; rw [foldG_nil f n, op1_nil]
theorem foldG_congr {f g : Nat → Rg} {s : Rg} : ∀ {n : Nat}, (∀ k, k < n → f k = g k) → foldG f n s = foldG g n s
  | 0, _ => rfl
  | n + 1, h => by
    show opR 1 (foldG f n s) (f n) = opR 1 (foldG g n s) (g n)
    rw [foldG_congr fun k hk => h k (by omega), h n (by omega)]
theorem foldG_mem {f : Nat → Rg} {s : Rg} (hs : valG s) (hf : ∀ k, valG (f k)) (x y : Int) : ∀ n, memG (foldG f n s) x y = true ↔ (memG s x y = true ∧ ∀ k, k < n → memG (f k) x y = true)
  | 0 => ⟨fun h => ⟨h, fun k hk => absurd hk (Nat.not_lt_zero _)⟩, fun h => h.1⟩
  | n + 1 => by
    have ih := foldG_mem hs hf x y n
    show memG (opR 1 (foldG f n s) (f n)) x y = true ↔ _
    rw [opR_mem (foldG_val hs n) (hf n), opE_1, Bool.and_eq_true, ih]
    constructor
    · rintro ⟨⟨h1, h2⟩, h3⟩
      refine ⟨h1, fun k hk => ?_⟩
      rcases (show k < n ∨ k = n by omega) with g | g
      · exact h2 k g
      · subst g; exact h3
    · rintro ⟨h1, h2⟩
      exact ⟨⟨h1, fun k hk => h2 k (by omega)⟩, h2 n (by omega)⟩
/-- Layers. -/
def szL (L : List Rg) : Bool := decide (L.length ≤ 10000) && L.all szG
noncomputable def layG (L : List Rg) (i : Int) : Rg := bif decide (0 ≤ i) && decide (i < (L.length : Int)) then (bif valGB (L.getD i.toNat []) then L.getD i.toNat [] else []) else []
theorem szL_get {L : List Rg} (h : szL L = true) (i : Nat) : szG (L.getD i []) = true := by
  unfold szL at h
  rw [Bool.and_eq_true, List.all_eq_true] at h
  rw [List.getD]
  cases hi : L[i]? with
  | none => rfl
  | some r => exact h.2 r (List.mem_of_getElem? hi)
theorem szL_len {L : List Rg} (h : szL L = true) : L.length ≤ 10000 := by
  unfold szL at h
  rw [Bool.and_eq_true, decide_eq_true_eq] at h
  exact h.1
theorem layG_val (L : List Rg) (i : Int) : valG (layG L i) := by
  unfold layG
  cases decide (0 ≤ i) && decide (i < (L.length : Int))
  · exact valG_nil
  · cases h : valGB (L.getD i.toNat [])
    · exact valG_nil
    · exact valGB_iff.1 h
theorem layG_out {L : List Rg} {i : Int} (h : i < 0 ∨ (L.length : Int) ≤ i) : layG L i = [] := by
  unfold layG
  by_cases h1 : 0 ≤ i
  · rw [decide_eq_false (show ¬ i < (L.length : Int) by omega), Bool.and_false]; rfl
  · rw [decide_eq_false h1, Bool.false_and]; rfl
noncomputable def skN (L : List Rg) (n : Int) : Nat := (min n (L.length : Int)).toNat
noncomputable def skS (L : List Rg) (i t b : Int) : Rg := foldG (fun k => layG L (i - 1 - (k : Int))) (skN L b) (foldG (fun k => layG L (i + 1 + (k : Int))) (skN L t) (layG L i))
noncomputable def skF (L : List Rg) (i t b : Int) : Rg := opR 0 (layG L i) (skS L i t b)
theorem skS_val (L : List Rg) (i t b : Int) : valG (skS L i t b) := foldG_val (foldG_val (layG_val L i) _) _
theorem skF_val (L : List Rg) (i t b : Int) : valG (skF L i t b) := opR_val _ _ _
theorem skS_mem (L : List Rg) (i t b x y : Int) : memG (skS L i t b) x y = true ↔ memG (layG L i) x y = true ∧ (∀ k, k < skN L t → memG (layG L (i + 1 + (k : Int))) x y = true) ∧ ∀ k, k < skN L b → memG (layG L (i - 1 - (k : Int))) x y = true := by
  unfold skS
  rw [foldG_mem (foldG_val (layG_val L i) _) (fun k => layG_val L _), foldG_mem (layG_val L i) (fun k => layG_val L _), and_assoc]
theorem skF_mem (L : List Rg) (i t b x y : Int) : memG (skF L i t b) x y = (memG (layG L i) x y && !memG (skS L i t b) x y) := by
  unfold skF
  rw [opR_mem (layG_val L i) (skS_val L i t b), opE_0]
theorem sk_sub (L : List Rg) (i t b x y : Int) (h : memG (skS L i t b) x y = true) : memG (layG L i) x y = true := ((skS_mem L i t b x y).1 h).1
end Go.Proofs.Ytacgchandefjgaa

namespace Go.Proofs.Ytacgchandefjgaa
def flatB (L : Rl) : List Int := L.flatMap fun r => [r.1, r.2]
theorem flatB_mem {L : Rl} {y : Int} : y ∈ flatB L ↔ ∃ r ∈ L, y = r.1 ∨ y = r.2 := by
  unfold flatB
  rw [List.mem_flatMap]
  constructor
  · rintro ⟨r, hr, h⟩; exact ⟨r, hr, by simpa using h⟩
  · rintro ⟨r, hr, h⟩; exact ⟨r, hr, by simpa using h⟩
/-- What the inner loop of an insertion knows. -/
structure Ins (l0 : List Int) (i : Nat) (k : Nat) (l : List Int) : Prop where
  ki : k ≤ i
  len : l.length = l0.length
  perm : l.Perm l0
  a : ∀ p q, p < q → q ≤ i → p ≠ k → q ≠ k → l.getD p 0 ≤ l.getD q 0
  b : ∀ q, k < q → q ≤ i → l.getD k 0 ≤ l.getD q 0
/-! Runs between bounds. -/
structure Cm (f : Int → Bool) (a : Int) (out : Rl) : Prop where
  nr : Nr (-1048577) out
  en : endR (-1048577) out ≤ a
  mem : ∀ x, memR out x ↔ (x < a ∧ f x = true)
/-- No bound between: the same members. -/
theorem memB_same {A : Rl} {x y : Int} (hyx : y ≤ x) (hz : ∀ z ∈ flatB A, ¬ (y < z ∧ z ≤ x)) : memB A x = memB A y := by
  have e : ∀ r ∈ A, (bif decide (r.1 ≤ x) then decide (x < r.2) else false) = (bif decide (r.1 ≤ y) then decide (y < r.2) else false) := fun r hr => by
    have z1 := hz r.1 (flatB_mem.2 ⟨r, hr, .inl rfl⟩)
    have z2 := hz r.2 (flatB_mem.2 ⟨r, hr, .inr rfl⟩)
    rw [show decide (r.1 ≤ x) = decide (r.1 ≤ y) by rw [Bool.eq_iff_iff, decide_eq_true_eq, decide_eq_true_eq]; omega, show decide (x < r.2) = decide (y < r.2) by rw [Bool.eq_iff_iff, decide_eq_true_eq, decide_eq_true_eq]; omega]
  unfold memB
  rw [Bool.eq_iff_iff, List.any_eq_true, List.any_eq_true]
  constructor
  · rintro ⟨r, hr, h⟩; exact ⟨r, hr, by rw [← e r hr]; exact h⟩
  · rintro ⟨r, hr, h⟩; exact ⟨r, hr, by rw [e r hr]; exact h⟩
theorem memB_below {A : Rl} {x : Int} (hz : ∀ z ∈ flatB A, x < z) : memB A x = false := by
  rw [← Bool.not_eq_true, memB_iff]
  rintro ⟨r, hr, h1, _⟩
  have := hz r.1 (flatB_mem.2 ⟨r, hr, .inl rfl⟩)
  omega
theorem memB_above {A : Rl} {x : Int} (hz : ∀ z ∈ flatB A, z ≤ x) : memB A x = false := by
  rw [← Bool.not_eq_true, memB_iff]
  rintro ⟨r, hr, _, h2⟩
  have := hz r.2 (flatB_mem.2 ⟨r, hr, .inr rfl⟩)
  omega
/-- Sorted: what lies in the list lies at or below an element or at or above the next. -/
theorem between {l : List Int} (hs : ∀ p q, p < q → q < l.length → l.getD p 0 ≤ l.getD q 0) {z : Int} (hz : z ∈ l) {i : Nat} (hi : i + 1 < l.length) : z ≤ l.getD i 0 ∨ l.getD (i + 1) 0 ≤ z := by
  obtain ⟨p, hp, rfl⟩ := List.mem_iff_getElem.1 hz
  have e : l[p] = l.getD p 0 := by rw [List.getD, List.getElem?_eq_getElem hp]; rfl
  rw [e]
  rcases (show p < i ∨ p = i ∨ p = i + 1 ∨ i + 1 < p by omega) with g | g | g | g
  · exact .inl (hs p i g (by omega))
  · subst g; exact .inl (Int.le_refl _)
  · subst g; exact .inr (Int.le_refl _)
  · exact .inr (hs (i + 1) p g hp)
def kpR (an : Int) (p q : Bool) : Bool := bif an == (0 : Int) then (bif p then true else q) else bif an == (1 : Int) then (bif p then q else false) else (bif p then !q else false)
theorem kpR_ff (an : Int) : kpR an false false = false := by
  unfold kpR
  cases an == (0 : Int) <;> cases an == (1 : Int) <;> rfl
structure Bds (A B : Rl) (l : List Int) : Prop where
  srt : ∀ p q, p < q → q < l.length → l.getD p 0 ≤ l.getD q 0
  perm : l.Perm (flatB A ++ flatB B)
theorem Bds.inA {A B : Rl} {l : List Int} (h : Bds A B l) {z : Int} (hz : z ∈ flatB A) : z ∈ l := h.perm.mem_iff.2 (List.mem_append_left _ hz)
theorem Bds.inB {A B : Rl} {l : List Int} (h : Bds A B l) {z : Int} (hz : z ∈ flatB B) : z ∈ l := h.perm.mem_iff.2 (List.mem_append_right _ hz)
theorem Bds.low {A B : Rl} {l : List Int} (h : Bds A B l) (ha : valR A) (hb : valR B) {i : Nat} (hi : i < l.length) : -1048577 < l.getD i 0 := by
  have e : l.getD i 0 = l[i] := by rw [List.getD, List.getElem?_eq_getElem hi]; rfl
  rw [e]
  rcases List.mem_append.1 (h.perm.mem_iff.1 (List.getElem_mem hi)) with g | g
  · obtain ⟨r, hr, k⟩ := flatB_mem.1 g
    have := val_in ha r hr
    rcases k with k | k <;> omega
  · obtain ⟨r, hr, k⟩ := flatB_mem.1 g
    have := val_in hb r hr
    rcases k with k | k <;> omega
theorem Bds.same {A B : Rl} {l : List Int} (h : Bds A B l) {i : Nat} (hi : i + 1 < l.length) {x : Int} (h1 : l.getD i 0 ≤ x) (h2 : x < l.getD (i + 1) 0) (an : Int) : kpR an (memB A x) (memB B x) = kpR an (memB A (l.getD i 0)) (memB B (l.getD i 0)) := by
  rw [memB_same (A := A) h1 fun z hz => by have := between h.srt (h.inA hz) hi; omega, memB_same (A := B) h1 fun z hz => by have := between h.srt (h.inB hz) hi; omega]
theorem Bds.fin {A B : Rl} {l : List Int} (h : Bds A B l) {i : Nat} (hi : i + 1 = l.length) {an : Int} {out : Rl} (c : Cm (fun x => kpR an (memB A x) (memB B x)) (l.getD i 0) out) (x : Int) : memR out x ↔ kpR an (memB A x) (memB B x) = true := by
  rw [c.mem]
  constructor
  · rintro ⟨_, h2⟩; exact h2
  · intro h2
    refine ⟨?_, h2⟩
    apply Classical.byContradiction
    intro g
    have hl : ∀ z ∈ l, z ≤ l.getD i 0 := fun z hz => by
      obtain ⟨p, hp, rfl⟩ := List.mem_iff_getElem.1 hz
      have e : l[p] = l.getD p 0 := by rw [List.getD, List.getElem?_eq_getElem hp]; rfl
      rw [e]
      rcases (show p = i ∨ p < i by omega) with k | k
      · subst k; exact Int.le_refl _
      · exact h.srt p i k (by omega)
    rw [memB_above (A := A) fun z hz => by have := hl z (h.inA hz); omega, memB_above (A := B) fun z hz => by have := hl z (h.inB hz); omega, kpR_ff] at h2
    cases h2
theorem Bds.none {A B : Rl} {l : List Int} (h : Bds A B l) (h0 : l.length = 0) (an x : Int) : kpR an (memB A x) (memB B x) = false := by
  have e : l = [] := List.length_eq_zero_iff.1 h0
  have a1 : memB A x = false := memB_below fun z hz => by
    have g := h.inA hz
    rw [e] at g
    cases g
  have a2 : memB B x = false := memB_below fun z hz => by
    have g := h.inB hz
    rw [e] at g
    cases g
  rw [a1, a2, kpR_ff]
/-! A step of an operation on regions. -/
theorem spl_hit (a : Int × Rl) (X : Rg) : spl (a :: X) a.1 = (a.2, X) := by
  show (bif decide (a.1 = a.1) then (a.2, X) else ([], a :: X)) = _
  rw [decide_eq_true rfl]; rfl
theorem spl_miss {a : Int × Rl} {X : Rg} {y : Int} (h : a.1 ≠ y) : spl (a :: X) y = ([], a :: X) := by
  show (bif decide (a.1 = y) then (a.2, X) else ([], a :: X)) = _
  rw [decide_eq_false h]; rfl
theorem spl_nil (y : Int) : spl [] y = ([], []) := rfl
end Go.Proofs.Ytacgchandefjgaa

namespace Go.Proofs.Ytacgchandefjgaa
/-! Boxes. -/
/-! Rows without gaps. -/
/-! Windows. -/
def Pw (q : Bool) (f : Nat → Rl) (s i : Nat) (x : Int) : Prop := match q with
  | true => ∃ j, j < s ∧ memB (f (i + j)) x = true
  | false => ∀ j, j < s → memB (f (i + j)) x = true
structure Wn (q : Bool) (f : Nat → Rl) (n s : Nat) (l : List Rl) : Prop where
  len : l.length = n - (s - 1)
  val : ∀ i, i < l.length → valR (l.getD i [])
  mem : ∀ i, i < l.length → ∀ x, memB (l.getD i []) x = true ↔ Pw q f s i x
/-! Successive rows as a region. -/
end Go.Proofs.Ytacgchandefjgaa

namespace Go.Proofs.Ytacgchandefjgaa
end Go.Proofs.Ytacgchandefjgaa

namespace Go.Proofs.Ytacgchandefjgaa
def dia (t dx dy : Int) : Prop := dx + dy ≤ t ∧ dx - dy ≤ t ∧ dy - dx ≤ t ∧ -dx - dy ≤ t
def Dm (q : Bool) (R : Rg) (t x y : Int) : Prop := match q with
  | true => ∃ dx dy, dia t dx dy ∧ memG R (x + dx) (y + dy) = true
  | false => ∀ dx dy, dia t dx dy → memG R (x + dx) (y + dy) = true
/-- Rows behind t steps. -/
structure Cn (q : Bool) (R : Rg) (F : Int) (N t : Nat) (l : List Rl) : Prop where
  len : l.length = N - 2 * t
  val : ∀ i, i < l.length → valR (l.getD i []) ∧ ∀ x, memB (l.getD i []) x = true → -5000 ≤ x ∧ x < 5000
  mem : ∀ i, i < l.length → ∀ x, memB (l.getD i []) x = true ↔ Dm q R (t : Int) x (F + (t : Int) + (i : Int))
end Go.Proofs.Ytacgchandefjgaa

namespace Go.Proofs.Ytacgchandefjgaa
theorem ng_gt : ∀ {R : Rg} {lo : Int}, Ng lo R → ∀ r ∈ R, lo < r.1
  | q :: R, lo, ⟨h1, _, h3⟩, r, hr => by
    rcases List.mem_cons.1 hr with rfl | hr
    · exact h1
    · have := ng_gt h3 r hr
      omega
theorem memG_at : ∀ {R : Rg} {lo : Int}, Ng lo R → ∀ r ∈ R, ∀ x, memG R x r.1 = memB r.2 x
  | q :: R, lo, ⟨_, _, h3⟩, r, hr, x => by
    rw [memG_cons]
    rcases List.mem_cons.1 hr with rfl | hr
    · rw [decide_eq_true rfl, Bool.true_and, Ng.low h3 (Int.le_refl _), Bool.or_false]
    · have g : q.1 < r.1 := ng_gt h3 r hr
      rw [decide_eq_false (show ¬ q.1 = r.1 by omega), Bool.false_and, Bool.false_or, memG_at h3 r hr x]
theorem memG_no {R : Rg} {x y : Int} (h : ∀ r ∈ R, r.1 ≠ y) : memG R x y = false := by
  unfold memG
  rw [← Bool.not_eq_true, List.any_eq_true]
  rintro ⟨r, hr, e⟩
  rw [Bool.and_eq_true, decide_eq_true_eq] at e
  exact h r hr e.1
theorem ng_sort : ∀ {R : Rg} {lo : Int}, Ng lo R → ∀ (i j : Nat) (hi : i < R.length) (hj : j < R.length), i < j → R[i].1 < R[j].1
  | q :: R, lo, ⟨_, _, h3⟩, 0, j + 1, _, hj, _ => ng_gt h3 _ (List.getElem_mem (show j < R.length by simpa using hj))
  | q :: R, lo, ⟨_, _, h3⟩, i + 1, j + 1, hi, hj, h => ng_sort h3 i j (by simpa using hi) (by simpa using hj) (by omega)
  | q :: R, lo, ⟨_, _, h3⟩, i, 0, _, _, h => absurd h (Nat.not_lt_zero _)
end Go.Proofs.Ytacgchandefjgaa

namespace Go.Proofs.Ytacgchandefjgaa
theorem cntG_cons (r : Int × Rl) (R : Rg) : cntG (r :: R) = lenR r.2 + cntG R := by
  unfold cntG
  rw [List.map_cons, List.sum_cons]
theorem cntG_pos : ∀ {R : Rg} {lo : Int}, Ng lo R → 0 ≤ cntG R
  | [], _, _ => by unfold cntG; simp
  | r :: R, lo, ⟨_, h2, h3⟩ => by
    rw [cntG_cons]
    have := (lenR_row h2).1
    have := cntG_pos h3
    omega
end Go.Proofs.Ytacgchandefjgaa

namespace Go.Proofs.Ytacgchandefjgaa
def clR (y : Int) (q : Int × Int) : List (Int × Int) := (List.range (q.2 - q.1).toNat).map fun i : Nat => (q.1 + (i : Int), y)
def clW (r : Int × Rl) : List (Int × Int) := r.2.flatMap (clR r.1)
def celG (R : Rg) : List (Int × Int) := R.flatMap clW
noncomputable def celV (R : Rg) : List (Int × Int) := bif valGB R then celG R else []
theorem fm_take {α β : Type} {f : α → List β} {l : List α} {j : Nat} (hj : j < l.length) : (l.take (j + 1)).flatMap f = (l.take j).flatMap f ++ f l[j] := by
  rw [List.take_succ_eq_append_getElem hj, List.flatMap_append]
  simp
theorem fm_len {α β : Type} {f : α → List β} {l : List α} (j : Nat) : ((l.take j).flatMap f).length ≤ (l.flatMap f).length := by
  have e : l.flatMap f = (l.take j).flatMap f ++ (l.drop j).flatMap f := by rw [← List.flatMap_append, List.take_append_drop]
  rw [e, List.length_append]
  omega
theorem fm_len1 {α β : Type} {f : α → List β} {l : List α} {j : Nat} (hj : j < l.length) : ((l.take j).flatMap f).length + (f l[j]).length ≤ (l.flatMap f).length := by
  have h := fm_len (f := f) (l := l) (j + 1)
  rw [fm_take hj, List.length_append] at h
  exact h
theorem clR_len (y : Int) (q : Int × Int) : (clR y q).length = (q.2 - q.1).toNat := by unfold clR; simp
theorem clR_mem {y : Int} {q p : Int × Int} : p ∈ clR y q ↔ p.2 = y ∧ q.1 ≤ p.1 ∧ p.1 < q.2 := by
  unfold clR
  rw [List.mem_map]
  constructor
  · rintro ⟨i, hi, rfl⟩
    rw [List.mem_range] at hi
    exact ⟨rfl, by show q.1 ≤ q.1 + (i : Int); omega, by show q.1 + (i : Int) < q.2; omega⟩
  · rintro ⟨rfl, h1, h2⟩
    exact ⟨(p.1 - q.1).toNat, List.mem_range.2 (by omega), Prod.ext (by show q.1 + (((p.1 - q.1).toNat : Nat) : Int) = p.1; omega) rfl⟩
theorem clW_len : ∀ {L : Rl} {lo y : Int}, Nr lo L → ((clW (y, L)).length : Int) = lenR L
  | [], _, _, _ => rfl
  | r :: L, lo, y, h => by
    obtain ⟨_, h2, h3⟩ := h
    have ih := clW_len (y := y) h3
    have e : (clW (y, r :: L)).length = (clR y r).length + (clW (y, L)).length := by
      show ((r :: L).flatMap (clR y)).length = _
      rw [List.flatMap_cons, List.length_append]; rfl
    rw [e, clR_len]
    unfold lenR at *
    rw [List.map_cons, List.sum_cons]
    omega
theorem celG_len : ∀ {R : Rg} {lo : Int}, Ng lo R → ((celG R).length : Int) = cntG R
  | [], _, _ => rfl
  | r :: R, lo, ⟨_, h2, h3⟩ => by
    have ih := celG_len h3
    have e : (celG (r :: R)).length = (clW r).length + (celG R).length := by
      show ((r :: R).flatMap clW).length = _
      rw [List.flatMap_cons, List.length_append]; rfl
    have e2 := clW_len (y := r.1) (rowOk_val h2).1
    rw [cntG_cons, e]
    have e3 : clW (r.1, r.2) = clW r := rfl
    rw [e3] at e2
    omega
theorem celG_mem {R : Rg} {p : Int × Int} : p ∈ celG R ↔ memG R p.1 p.2 = true := by
  unfold celG clW memG
  rw [List.mem_flatMap, List.any_eq_true]
  constructor
  · rintro ⟨r, hr, h⟩
    obtain ⟨q, hq, h⟩ := List.mem_flatMap.1 h
    obtain ⟨h1, h2, h3⟩ := clR_mem.1 h
    exact ⟨r, hr, by rw [Bool.and_eq_true, decide_eq_true_eq]; exact ⟨h1.symm, memB_iff.2 ⟨q, hq, h2, h3⟩⟩⟩
  · rintro ⟨r, hr, h⟩
    rw [Bool.and_eq_true, decide_eq_true_eq] at h
    obtain ⟨q, hq, h2, h3⟩ := memB_iff.1 h.2
    exact ⟨r, hr, List.mem_flatMap.2 ⟨q, hq, clR_mem.2 ⟨h.1.symm, h2, h3⟩⟩⟩
/-- A region is counted by its parts. -/
theorem lenR_part {A B C : Rl} (ha : valR A) (hb : valR B) (hc : valR C) (hu : ∀ x, memB C x = (memB A x || memB B x)) (hn : ∀ x, (memB A x && memB B x) = false) : lenR C = lenR A + lenR B := by
  rw [lenR_cnt (n := 2097153) ha.1 (by have := ha.2; omega), lenR_cnt (n := 2097153) hb.1 (by have := hb.2; omega), lenR_cnt (n := 2097153) hc.1 (by have := hc.2; omega)]
  have h := cnt_sum (f := memB A) (g := memB B) (u := memB C) (i := fun _ => false) (lo := -1048577 + 1) (n := 2097153) hu (fun x => (hn x).symm)
  rw [cnt_const (fun _ => false) _ false _ fun _ _ _ => rfl] at h
  simpa using h
theorem spl_cnt (A : Rg) (y : Int) : cntG A = lenR (spl A y).1 + cntG (spl A y).2 := by
  cases A with
  | nil => rw [spl_nil]; rfl
  | cons a A =>
    by_cases g : a.1 = y
    · subst g; rw [spl_hit, cntG_cons]
    · rw [spl_miss g]; show _ = lenR [] + _; unfold lenR; simp
theorem cntG_part : ∀ {C : Rg} {lo : Int} {A B : Rg}, Ng lo A → Ng lo B → Ng lo C → (∀ x y, memG C x y = (memG A x y || memG B x y)) → (∀ x y, (memG A x y && memG B x y) = false) → cntG C = cntG A + cntG B
  | [], lo, A, B, ha, hb, _, hu, _ => by
    have none : ∀ {X : Rg} {l : Int}, Ng l X → (∀ x y, memG X x y = false) → cntG X = 0 := fun {X l} hx h => by
      cases X with
      | nil => rfl
      | cons a X =>
        obtain ⟨x, hx'⟩ := rowOk_some hx.2.1
        have := h x a.1
        rw [memG_cons, decide_eq_true rfl, hx'] at this; cases this
    have h1 : ∀ x y, memG A x y = false ∧ memG B x y = false := fun x y => by
      have := hu x y
      rw [memG_nil] at this
      cases h : memG A x y
      · rw [h] at this; exact ⟨rfl, by simpa using this.symm⟩
      · rw [h] at this; cases this
    rw [none ha fun x y => (h1 x y).1, none hb fun x y => (h1 x y).2]; rfl
  | c :: C, lo, A, B, ha, hb, ⟨hc1, hc2, hc3⟩, hu, hn => by
    have low : ∀ {X : Rg} {l : Int}, Ng l X → (∀ x y, memG X x y = true → memG (c :: C) x y = true) → ∀ r ∈ X, c.1 ≤ r.1 := fun {X l} hx h r hr => by
      obtain ⟨x, hx'⟩ := rowOk_some (Ng.rows hx r hr)
      have m := h x r.1 (by rw [memG_at hx r hr]; exact hx')
      rcases Int.lt_or_le r.1 c.1 with g | g
      · rw [memG_cons, decide_eq_false (show ¬ c.1 = r.1 by omega), Ng.low hc3 (show r.1 ≤ c.1 by omega)] at m; cases m
      · exact g
    have lA := low ha fun x y h => by rw [hu, h]; rfl
    have lB := low hb fun x y h => by rw [hu, h, Bool.or_true]
    obtain ⟨a1, a2, a3, a4, _, _⟩ := spl_ok ha lA
    obtain ⟨b1, b2, b3, b4, _, _⟩ := spl_ok hb lB
    rw [cntG_cons, spl_cnt A c.1, spl_cnt B c.1]
    have e1 : lenR c.2 = lenR (spl A c.1).1 + lenR (spl B c.1).1 := lenR_part a4 b4 (rowOk_val hc2) (fun x => by
      rw [a2, b2, ← hu, memG_cons, decide_eq_true rfl, Ng.low hc3 (Int.le_refl _)]; simp) fun x => by rw [a2, b2]; exact hn x c.1
    have nilAt : ∀ {X : Rg} {l : Int}, Ng l X → ∀ y, y ≤ l → ∀ x, memG X x y = false := fun hx y hy x => Ng.low hx hy
    have e2 := cntG_part (C := C) (A := (spl A c.1).2) (B := (spl B c.1).2) a1 b1 hc3 (fun x y => by
      rcases Int.lt_or_le c.1 y with g | g
      · rw [a3 x y (by omega), b3 x y (by omega), ← hu, memG_cons, decide_eq_false (show ¬ c.1 = y by omega), Bool.false_and, Bool.false_or]
      · rw [Ng.low hc3 g, Ng.low a1 g, Ng.low b1 g]; rfl) fun x y => by
      rcases Int.lt_or_le c.1 y with g | g
      · rw [a3 x y (by omega), b3 x y (by omega)]; exact hn x y
      · rw [Ng.low a1 g]; rfl
    omega
end Go.Proofs.Ytacgchandefjgaa
