/-
  The evaluator is right: own rows that are lent, and not written any more. No program is named here.
-/
import Derived.Test.YtacgchandefjgaaFvF
namespace Go.Proofs.Ytacgchandefjgaa
open Go
theorem Ty.size_pos : ∀ t : Ty, 0 < t.size
  | .int _ => Nat.one_pos
  | .bool => Nat.one_pos
  | .str => Nat.one_pos
  | .list _ => Nat.one_pos
  | .prod a b => by have := Ty.size_pos a; simp only [Ty.size]; omega
theorem Own.puts_append (own : Own) : ∀ (a b : List (Nat × OB)), own.puts (a ++ b) = (own.puts a).puts b
  | [], _ => rfl
  | q :: r, b => by simp only [List.cons_append, Own.puts]; exact Own.puts_append _ r b
section
variable {w0 : World} {fr0 : Nat → Prop} {ρ : Nat → Option Nat} {fr fr1 : Nat → Prop} {own : Own} {w : World} {lk : Nat → Option OB}
theorem cut_len {α : Type} (l : List α) (i : Nat) (n : Option Nat) (h : i + cutLen l i n ≤ l.length) : (cut l i n).length = cutLen l i n := by
  cases n with
  | none => cases i <;> simp [cut, cutLen]
  | some n => simp only [cut, cutLen, List.length_take, List.length_drop] at *; omega
theorem cut_get {α : Type} (l : List α) (i : Nat) (n : Option Nat) (j : Nat) {x : α} (h : (cut l i n)[j]? = some x) : l[i + j]? = some x := by
  cases n with
  | none =>
    cases i with
    | zero => simpa [cut] using h
    | succ i => simpa [cut, List.getElem?_drop] using h
  | some n =>
    simp only [cut, List.getElem?_take] at h
    split at h
    · simpa [List.getElem?_drop] using h
    · cases h
/-- What a slice of an own row reads. -/
theorem sis_row (r : RepM w0 fr0 ρ fr own w) {k i : Nat} {n : Option Nat} {u : Value} {mu kl kn : Bool} {e : TypeId} {t : Ty} {l : List t.den} (hk : own.look k = some (.row mu kl kn e t l)) (h : SIs own ρ w k i n u) :
    i + cutLen l i n ≤ l.length ∧ (cut l i n).length = cutLen l i n ∧ ∃ a c, u = .slice a (cutLen l i n) c ∧ cutLen l i n ≤ c ∧ c ≤ maxLen ∧ ((ρ k = none ∧ c = 0 ∧ cutLen l i n = 0) ∨
      ∃ b C, ρ k = some b ∧ Blk w b e (C * t.size) ∧ l.length ≤ C ∧ C ≤ maxLen ∧ RowAt w fr t l b 0 ∧ (i = 0 ∨ 0 < cutLen l i n → a = some ⟨b, i * t.size, none⟩ ∧ i + c = C)) := by
  unfold SIs at h
  rw [hk] at h
  simp only at h
  obtain ⟨h0, h⟩ := h
  refine ⟨h0, cut_len l i n h0, ?_⟩
  rcases h with ⟨h1, ⟨a, rfl⟩, h2⟩ | ⟨b, C, a, c, h1, h2, rfl, h3, h4, h5, h6⟩
  · exact ⟨a, 0, by rw [h2], by omega, by simp [maxLen], .inl ⟨h1, rfl, h2⟩⟩
  · rcases r.rows k mu kl kn e t l hk with ⟨h7, _⟩ | ⟨b', C', h7, h8, h9, h10, h11, h12, _⟩
    · rw [h1] at h7; cases h7
    · rw [h1] at h7; cases h7
      have hC : C * t.size = C' * t.size := by
        obtain ⟨c1, e1, s1⟩ := h2
        obtain ⟨c2, e2, s2⟩ := h9
        rw [e1] at e2; cases e2
        omega
      have : C = C' := Nat.eq_of_mul_eq_mul_right t.size_pos hC
      subst this
      exact ⟨a, c, rfl, h3, h4, .inr ⟨b, C, h1, h2, h10, h11, h12, h6⟩⟩
theorem RowAt.mono {w' : World} {fr' : Nat → Prop} (hf : ∀ b, fr b → fr' b) (hc : ∀ b, fr b → ∀ o, w'.cell? ⟨b, o, none⟩ = w.cell? ⟨b, o, none⟩) {t : Ty} {l : List t.den} {b o : Nat} (hb : ∀ o, w'.cell? ⟨b, o, none⟩ = w.cell? ⟨b, o, none⟩) (h : RowAt w fr t l b o) : RowAt w' fr' t l b o := fun i x hi => by
  obtain ⟨us, h1, h2⟩ := h i x hi
  exact ⟨us, h1.mono hf hc, fun j u hj => by rw [hb]; exact h2 j u hj⟩
/-- A slice of a row that is not written: as one that is read alone. -/
theorem sis_list (r : RepM w0 fr0 ρ fr own w) {k i : Nat} {n : Option Nat} {u : Value} {mu kl kn : Bool} {e : TypeId} {t : Ty} {l : List t.den} (hk : own.look k = some (.row mu kl kn e t l)) (h : SIs own ρ w k i n u)
    (hf : ∀ b, fr b → fr1 b) (hb : ∀ b, ρ k = some b → fr1 b) : (Ty.list t).Is w fr1 (cut l i n) [u] := by
  obtain ⟨h0, hl, a, c, rfl, h1, h2, h3⟩ := sis_row r hk h
  refine ⟨a, c, by rw [← hl], by rw [hl]; exact h1, h2, fun hne => ?_⟩
  have hpos : 0 < cutLen l i n := by
    rw [← hl]; exact List.length_pos_iff.2 hne
  rcases h3 with ⟨_, _, h⟩ | ⟨b, C, h4, h5, h6, h7, h8, h9⟩
  · omega
  · obtain ⟨ha, _⟩ := h9 (.inr hpos)
    refine ⟨b, i * t.size, ha, hb b h4, fun j x hj => ?_⟩
    obtain ⟨us, h10, h11⟩ := h8 (i + j) x (cut_get l i n j hj)
    refine ⟨us, h10.mono hf (fun _ _ _ => rfl), fun q v hq => ?_⟩
    have := h11 q v hq
    rwa [Nat.zero_add, Nat.add_mul] at this
theorem lendC_keys {x y : CV} (h : lendC lk x = some y) : y.keys = [] := by
  unfold lendC at h
  split at h
  · split at h
    · simp only [Option.some.injEq] at h; subst h; rfl
    · cases h
  · cases h
  · cases h
  · split at h
    · simp only [Option.some.injEq] at h; subst h; rfl
    · cases h
  · cases h
  · rename_i h1 h2 h3 h4 h5
    simp only [Option.some.injEq] at h; subst h
    cases x with
    | v _ _ => rfl
    | p k off => exact absurd rfl (h2 k off)
    | fn f caps => exact absurd rfl (h4 f caps)
    | junk => exact absurd rfl h5
    | d _ _ _ _ => rfl
    | s kn k i n => exact absurd rfl (h1 kn k i n)
    | e _ _ _ _ => rfl
    | ap kn k i m off => exact absurd rfl (h3 kn k i m off)
theorem lendC_is (r : RepM w0 fr0 ρ fr own w) (hlk : ∀ k ob, lk k = some ob → own.look k = some ob) (hf : ∀ b, fr b → fr1 b) {x y : CV} {u : Value} (h : lendC lk x = some y)
    (hb : ∀ k ∈ x.keys, ∀ mu kl kn e t l b, lk k = some (.row mu kl kn e t l) → ρ k = some b → fr1 b) (hx : x.is own ρ fr w u) (own' : Own) (ρ' : Nat → Option Nat) : y.is own' ρ' fr1 w u := by
  unfold lendC at h
  split at h
  · rename_i kn k i n
    split at h
    · rename_i mu kl kn' e t l hk
      simp only [Option.some.injEq] at h; subst h
      exact sis_list r (hlk _ _ hk) hx hf fun b hb' => hb k (by simp [CV.keys]) _ _ _ _ _ _ b hk hb'
    · cases h
  · cases h
  · cases h
  · split at h
    · rename_i f _
      simp only [Option.some.injEq] at h; subst h
      obtain ⟨as, e, ha⟩ := hx
      cases ha
      exact ⟨[], e, rfl⟩
    · cases h
  · cases h
  · rename_i h1 h2 h3 h4 h5
    simp only [Option.some.injEq] at h; subst h
    cases x with
    | v _ _ => exact hx
    | p k off => exact absurd rfl (h2 k off)
    | fn f caps => exact absurd rfl (h4 f caps)
    | junk => exact absurd rfl h5
    | d _ _ t l => exact Ty.Is.mono (t := .list t) hf (fun _ _ _ => rfl) hx
    | s kn k i n => exact absurd rfl (h1 kn k i n)
    | e _ t x off =>
      obtain ⟨b, o, e, hb', us, h6, h7⟩ := hx
      exact ⟨b, o, e, hf b hb', us, h6.mono hf (fun _ _ _ => rfl), h7⟩
    | ap kn k i m off => exact absurd rfl (h3 kn k i m off)
theorem lendL_is (r : RepM w0 fr0 ρ fr own w) (hlk : ∀ k ob, lk k = some ob → own.look k = some ob) (hf : ∀ b, fr b → fr1 b) (own' : Own) (ρ' : Nat → Option Nat) : ∀ {xs ys : List CV} {us : List Value}, lendL lk xs = some ys →
    (∀ k ∈ xs.flatMap CV.keys, ∀ mu kl kn e t l b, lk k = some (.row mu kl kn e t l) → ρ k = some b → fr1 b) → csIs own ρ fr w xs us → csIs own' ρ' fr1 w ys us ∧ ys.flatMap CV.keys = []
  | [], ys, us, h, _, hx => by simp only [lendL, Option.some.injEq] at h; subst h; exact ⟨hx, rfl⟩
  | x :: xs, ys, us, h, hb, ⟨u, us', e, h1, h2⟩ => by
    simp only [lendL] at h
    split at h
    · rename_i y l hy hl
      simp only [Option.some.injEq] at h; subst h
      obtain ⟨h3, h4⟩ := lendL_is r hlk hf own' ρ' hl (fun k hk => hb k (by rw [List.flatMap_cons]; exact List.mem_append_right _ hk)) h2
      exact ⟨⟨u, us', e, lendC_is r hlk hf hy (fun k hk => hb k (by rw [List.flatMap_cons]; exact List.mem_append_left _ hk)) h1 own' ρ', h3⟩, by rw [List.flatMap_cons, h4, lendC_keys hy]; rfl⟩
    · cases h
theorem lendL_len : ∀ {xs ys : List CV}, lendL lk xs = some ys → ys.length = xs.length
  | [], ys, h => by simp only [lendL, Option.some.injEq] at h; subst h; rfl
  | x :: xs, ys, h => by
    simp only [lendL] at h
    split at h
    · rename_i y l hy hl
      simp only [Option.some.injEq] at h; subst h
      simp [lendL_len hl]
    · cases h
theorem lendA_is (r : RepM w0 fr0 ρ fr own w) (hlk : ∀ k ob, lk k = some ob → own.look k = some ob) (hf : ∀ b, fr b → fr1 b) (own' : Own) (ρ' : Nat → Option Nat) {x y : AV} {u : Value} (h : lendA lk x = some y)
    (hb : ∀ k ∈ x.keys, ∀ mu kl kn e t l b, lk k = some (.row mu kl kn e t l) → ρ k = some b → fr1 b) (hx : x.is own ρ fr w u) : y.is own' ρ' fr1 w u ∧ y.keys = [] := by
  unfold lendA at h
  split at h
  · rename_i c
    obtain ⟨c', hc, rfl⟩ := Option.map_eq_some_iff.1 h
    exact ⟨lendC_is r hlk hf hc (fun k hk => hb k (by simpa [AV.keys, AV.cvs] using hk)) hx own' ρ', by simp [AV.keys, AV.cvs, lendC_keys hc]⟩
  · rename_i l
    obtain ⟨l', hl, rfl⟩ := Option.map_eq_some_iff.1 h
    obtain ⟨us, e, hu⟩ := hx
    obtain ⟨h1, h2⟩ := lendL_is r hlk hf own' ρ' hl hb hu
    exact ⟨⟨us, e, h1⟩, h2⟩
  · cases h
def asIs (own : Own) (ρ : Nat → Option Nat) (fr : Nat → Prop) (w : World) : List AV → List Value → Prop
  | [], us => us = []
  | x :: xs, us => ∃ u us', us = u :: us' ∧ x.is own ρ fr w u ∧ asIs own ρ fr w xs us'
theorem lendAll_is (r : RepM w0 fr0 ρ fr own w) (hlk : ∀ k ob, lk k = some ob → own.look k = some ob) (hf : ∀ b, fr b → fr1 b) (own' : Own) (ρ' : Nat → Option Nat) : ∀ {xs ys : List AV} {us : List Value}, lendAll lk xs = some ys →
    (∀ k ∈ xs.flatMap AV.keys, ∀ mu kl kn e t l b, lk k = some (.row mu kl kn e t l) → ρ k = some b → fr1 b) → asIs own ρ fr w xs us → asIs own' ρ' fr1 w ys us ∧ ys.flatMap AV.keys = []
  | [], ys, us, h, _, hx => by simp only [lendAll, Option.some.injEq] at h; subst h; exact ⟨hx, rfl⟩
  | x :: xs, ys, us, h, hb, ⟨u, us', e, h1, h2⟩ => by
    simp only [lendAll] at h
    split at h
    · rename_i y l hy hl
      simp only [Option.some.injEq] at h; subst h
      obtain ⟨h3, h4⟩ := lendAll_is r hlk hf own' ρ' hl (fun k hk => hb k (by rw [List.flatMap_cons]; exact List.mem_append_right _ hk)) h2
      obtain ⟨h5, h6⟩ := lendA_is r hlk hf own' ρ' hy (fun k hk => hb k (by rw [List.flatMap_cons]; exact List.mem_append_left _ hk)) h1
      exact ⟨⟨u, us', e, h5, h3⟩, by rw [List.flatMap_cons, h4, h6]; rfl⟩
    · cases h
/-- The rows that lk tells of are as they were, but for being written. -/
def Told (lk : Nat → Option OB) (own : Own) : Prop := ∀ k mu kl kn e t l, lk k = some (.row mu kl kn e t l) → ∃ mu', own.look k = some (.row mu' kl kn e t l)
theorem freezeL_ok : ∀ (ks : List Nat) {own : Own} {fr : Nat → Prop}, RepM w0 fr0 ρ fr own w → Told lk own → ∃ fr', RepM w0 fr0 ρ fr' (own.puts (freezeL lk ks)) w ∧ Grow own ρ fr w (own.puts (freezeL lk ks)) ρ fr' w ∧ Told lk (own.puts (freezeL lk ks)) ∧
    (∀ k, k ∉ ks → (own.puts (freezeL lk ks)).look k = own.look k) ∧ ∀ k ∈ ks, ∀ mu kl kn e t l b, lk k = some (.row mu kl kn e t l) → ρ k = some b → fr' b
  | [], own, fr, r, ht => ⟨fr, r, Grow.refl _ _ _ _, ht, fun _ _ => rfl, fun _ h => by cases h⟩
  | k :: ks, own, fr, r, ht => by
    have skip : freezeL lk (k :: ks) = freezeL lk ks → (∀ mu kl kn e t l, lk k ≠ some (.row mu kl kn e t l)) → ∃ fr', RepM w0 fr0 ρ fr' (own.puts (freezeL lk (k :: ks))) w ∧ Grow own ρ fr w (own.puts (freezeL lk (k :: ks))) ρ fr' w ∧ Told lk (own.puts (freezeL lk (k :: ks))) ∧
        (∀ j, j ∉ k :: ks → (own.puts (freezeL lk (k :: ks))).look j = own.look j) ∧ ∀ j ∈ k :: ks, ∀ mu kl kn e t l b, lk j = some (.row mu kl kn e t l) → ρ j = some b → fr' b := fun he0 hn => by
      rw [he0]
      obtain ⟨fr', h1, h2, h3, h4, h5⟩ := freezeL_ok ks r ht
      refine ⟨fr', h1, h2, h3, fun j hj => h4 j fun h => hj (List.mem_cons_of_mem _ h), fun j hj mu kl kn e t l b hl hb => ?_⟩
      rcases List.mem_cons.1 hj with rfl | hj
      · exact absurd hl (hn mu kl kn e t l)
      · exact h5 j hj mu kl kn e t l b hl hb
    cases hk : lk k with
    | none => exact skip (by simp [freezeL, hk]) (fun _ _ _ _ _ _ h => by rw [hk] at h; cases h)
    | some ob =>
      cases ob with
      | cells c => exact skip (by simp [freezeL, hk]) (fun _ _ _ _ _ _ h => by rw [hk] at h; cases h)
      | dead => exact skip (by simp [freezeL, hk]) (fun _ _ _ _ _ _ h => by rw [hk] at h; cases h)
      | row mu kl kn e t l =>
        obtain ⟨mu', hl⟩ := ht k mu kl kn e t l hk
        obtain ⟨fr2, r2, g2, hb2⟩ := r.freeze hl
        have ht2 : Told lk (own.set k (.row false kl kn e t l)) := fun j mu2 kl2 kn2 e2 t2 l2 hj => by
          rw [Own.look_set]
          by_cases e' : j = k
          · subst e'
            rw [hk] at hj; cases hj
            exact ⟨false, by simp⟩
          · simp only [e', if_false]; exact ht j mu2 kl2 kn2 e2 t2 l2 hj
        obtain ⟨fr', h1, h2, h3, h4, h5⟩ := freezeL_ok ks r2 ht2
        have he : freezeL lk (k :: ks) = (k, .row false kl kn e t l) :: freezeL lk ks := by simp [freezeL, hk]
        rw [he]
        simp only [Own.puts]
        refine ⟨fr', h1, g2.trans h2, h3, fun j hj => ?_, fun j hj mu2 kl2 kn2 e2 t2 l2 b hl2 hb => ?_⟩
        · rw [h4 j fun h => hj (List.mem_cons_of_mem _ h), Own.look_set, if_neg fun e' => hj (by rw [e']; exact List.mem_cons_self)]
        · rcases List.mem_cons.1 hj with rfl | hj
          · exact h2.frz b (hb2 b hb)
          · exact h5 j hj mu2 kl2 kn2 e2 t2 l2 b hl2 hb
theorem told_of (hlk : ∀ k ob, lk k = some ob → own.look k = some ob) : Told lk own := fun k mu _ _ _ _ _ h => ⟨mu, hlk k _ h⟩
end
end Go.Proofs.Ytacgchandefjgaa
