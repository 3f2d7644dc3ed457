/-
  Sets as runs: what operations on normal forms come to; lengths; runs that grow and shrink. No program is named here.
-/
import Derived.Test.YtdoodmapmhibhaaRunN
namespace Go.Proofs.Ytdoodmapmhibhaa
theorem seg_val (f : Int → Bool) {bs : List Int} (h : asc bs) (hb : ∀ y ∈ bs, -1048576 ≤ y ∧ y ≤ 1048576) : valR (mrgR (seg f bs)) := by
  obtain ⟨s1, s2⟩ := seg_ok f h
  obtain ⟨m1, _, m3⟩ := mrgR_ok (lo := -1048577) (fun r hr => ⟨(s1 r hr).1, by have := hb _ (s1 r hr).2.1; omega⟩) s2
  exact ⟨m1, m3 1048576 (by omega) fun r hr => (hb _ (s1 r hr).2.2).2⟩
theorem valB_of {L : Rl} (h : valR L) : valB L = true := valB_iff.2 h
/-- Counts of a set's members. -/
def cnt (f : Int → Bool) (lo : Int) : Nat → Int
  | 0 => 0
  | n + 1 => cnt f lo n + (bif f (lo + n) then 1 else 0)
theorem cnt_congr {f g : Int → Bool} {lo : Int} : ∀ {n : Nat}, (∀ x, lo ≤ x → x < lo + n → f x = g x) → cnt f lo n = cnt g lo n
  | 0, _ => rfl
  | n + 1, h => by
    show cnt f lo n + _ = cnt g lo n + _
    rw [cnt_congr fun x h1 h2 => h x h1 (by omega), h (lo + n) (by omega) (by omega)]
theorem cnt_add (f : Int → Bool) (lo : Int) (n : Nat) : ∀ m : Nat, cnt f lo (n + m) = cnt f lo n + cnt f (lo + n) m
  | 0 => by simp [cnt]
  | m + 1 => by
    show cnt f lo (n + m) + (bif f (lo + ((n + m : Nat) : Int)) then 1 else 0) = cnt f lo n + (cnt f (lo + n) m + (bif f (lo + n + m) then 1 else 0))
    rw [cnt_add f lo n m, show lo + ((n + m : Nat) : Int) = lo + n + m by omega]
    omega
theorem cnt_const (f : Int → Bool) (lo : Int) (b : Bool) : ∀ n : Nat, (∀ x, lo ≤ x → x < lo + n → f x = b) → cnt f lo n = (bif b then (n : Int) else 0)
  | 0, _ => by cases b <;> rfl
  | n + 1, h => by
    show cnt f lo n + (bif f (lo + n) then 1 else 0) = _
    rw [cnt_const f lo b n fun x h1 h2 => h x h1 (by omega), h (lo + n) (by omega) (by omega)]
    cases b
    · rfl
    · show (n : Int) + 1 = ((n + 1 : Nat) : Int); omega
theorem lenR_cnt : ∀ {L : Rl} {lo : Int} {n : Nat}, Nr lo L → endR lo L ≤ lo + 1 + n → lenR L = cnt (memB L) (lo + 1) n
  | [], lo, n, _, _ => by
    rw [cnt_const (memB []) (lo + 1) false n fun x _ _ => rfl]; rfl
  | r :: L, lo, n, ⟨h1, h2, h3⟩, he => by
    have he : endR r.2 L ≤ lo + 1 + n := he
    have hle := h3.le_end
    obtain ⟨a, ha⟩ : ∃ a : Nat, r.1 = lo + 1 + a := ⟨(r.1 - (lo + 1)).toNat, by omega⟩
    obtain ⟨b, hb⟩ : ∃ b : Nat, r.2 = r.1 + b := ⟨(r.2 - r.1).toNat, by omega⟩
    have e : lenR (r :: L) = (r.2 - r.1) + lenR L := by unfold lenR; simp
    have mem0 : ∀ x, x < r.1 → memB (r :: L) x = false := fun x hx => by
      rw [← Bool.not_eq_true, memB_iff, memR_cons]
      rintro (h | h)
      · omega
      · have := h3.gt h; omega
    have mem1 : ∀ x, r.1 ≤ x → x < r.2 → memB (r :: L) x = true := fun x g1 g2 => memB_iff.2 (memR_cons.2 (.inl ⟨g1, g2⟩))
    have mem2 : ∀ x, r.2 ≤ x → memB (r :: L) x = memB L x := fun x hx => by
      rw [Bool.eq_iff_iff, memB_iff, memB_iff, memR_cons]
      constructor
      · rintro (h | h)
        · omega
        · exact h
      · exact .inr
    rw [e]
    -- the place behind the run is empty
    have hend : r.2 ≤ lo + 1 + n := by omega
    obtain ⟨m, hm⟩ : ∃ m : Nat, n = a + (b + m) := ⟨n - (a + b), by omega⟩
    subst hm
    rw [cnt_add, cnt_add, cnt_const _ (lo + 1) false a fun x g1 g2 => mem0 x (by omega), cnt_const _ (lo + 1 + a) true b fun x g1 g2 => mem1 x (by omega) (by omega)]
    rw [cnt_congr (g := memB L) fun x g1 g2 => mem2 x (by omega)]
    have e3 : lo + 1 + (a : Int) + (b : Int) = r.2 := by omega
    rw [e3]
    cases m with
    | zero =>
      have : L = [] := by
        cases L with
        | nil => rfl
        | cons q L =>
          obtain ⟨k1, k2, k3⟩ := h3
          have k4 := k3.le_end
          have he : endR q.2 L ≤ lo + 1 + ((a + (b + 0) : Nat) : Int) := he
          omega
      subst this
      simp [cnt, lenR]; omega
    | succ m =>
      have ih := lenR_cnt (L := L) (lo := r.2) (n := m) h3 (by omega)
      have e4 : cnt (memB L) r.2 (m + 1) = cnt (memB L) (r.2 + 1) m := by
        have := cnt_add (memB L) r.2 1 m
        rw [Nat.add_comm 1 m] at this
        rw [this]
        have e0 : cnt (memB L) r.2 1 = 0 := by
          rw [cnt_const (memB L) r.2 false 1 fun x g1 g2 => by
            have : x = r.2 := by omega
            subst this
            rw [← Bool.not_eq_true, memB_iff]
            intro h
            have := h3.gt h; omega]
          rfl
        rw [e0]; simp
      rw [e4, ← ih]
      simp; omega
theorem lenR_le {L : Rl} (h : valR L) : 0 ≤ lenR L ∧ lenR L ≤ 2097153 := by
  rw [lenR_cnt (n := 2097153) h.1 (by have := h.2; omega)]
  have : ∀ (f : Int → Bool) (lo : Int) (n : Nat), 0 ≤ cnt f lo n ∧ cnt f lo n ≤ n := fun f lo n => by
    induction n with
    | zero => exact ⟨Int.le_refl _, Int.le_refl _⟩
    | succ n ih =>
      show 0 ≤ cnt f lo n + _ ∧ cnt f lo n + _ ≤ _
      cases f (lo + n) <;> simp <;> omega
  have := this (memB L) (-1048577 + 1) 2097153
  omega
/-- Runs that grow, runs that shrink. -/
theorem mem_mv {L : Rl} {a b x : Int} : memR (mvR L a b) x ↔ ∃ r ∈ L, r.1 + a ≤ x ∧ x < r.2 + b := by
  unfold mvR memR
  constructor
  · rintro ⟨q, hq, h⟩
    obtain ⟨r, hr, rfl⟩ := List.mem_map.1 hq
    exact ⟨r, (List.mem_filter.1 hr).1, h⟩
  · rintro ⟨r, hr, h1, h2⟩
    exact ⟨_, List.mem_map.2 ⟨r, List.mem_filter.2 ⟨hr, decide_eq_true (by omega)⟩, rfl⟩, h1, h2⟩
theorem Nr.hole : ∀ {L : Rl} {lo : Int}, Nr lo L → ∀ r ∈ L, ¬ memR L r.2
  | q :: L, lo, ⟨h1, h2, h3⟩, r, hr => by
    rw [memR_cons]
    rintro (h | h)
    · rcases List.mem_cons.1 hr with rfl | hr
      · omega
      · have := (h3.pair.2 r hr).2; have := (h3.pair.2 r hr).1; omega
    · rcases List.mem_cons.1 hr with rfl | hr
      · have := h3.gt h; omega
      · exact Nr.hole h3 r hr h
/-- What is shrunk: all within the distance is in the set. -/
theorem mem_shrink {L : Rl} {lo k x : Int} (h : Nr lo L) (k0 : 0 ≤ k) : memR (mvR L k (-k)) x ↔ ∀ s, -k ≤ s → s ≤ k → memR L (x + s) := by
  rw [mem_mv]
  constructor
  · rintro ⟨r, hr, h1, h2⟩ s s1 s2
    exact ⟨r, hr, by omega, by omega⟩
  · intro hs
    obtain ⟨r, hr, h1, h2⟩ := hs (-k) (Int.le_refl _) (by omega)
    refine ⟨r, hr, by omega, ?_⟩
    rcases Int.lt_or_le x (r.2 + -k) with g | g
    · exact g
    · exfalso
      have := hs (r.2 - x) (by omega) (by omega)
      rw [show x + (r.2 - x) = r.2 by omega] at this
      exact h.hole r hr this
theorem mem_grow {L : Rl} {k x : Int} (hr : ∀ r ∈ L, r.1 < r.2) (k0 : 0 ≤ k) : memR (mvR L (-k) k) x ↔ ∃ s, -k ≤ s ∧ s ≤ k ∧ memR L (x + s) := by
  rw [mem_mv]
  constructor
  · rintro ⟨r, hm, h1, h2⟩
    have := hr r hm
    by_cases g : x < r.1
    · exact ⟨r.1 - x, by omega, by omega, r, hm, by omega, by omega⟩
    · by_cases g2 : x < r.2
      · exact ⟨0, by omega, by omega, r, hm, by omega, by omega⟩
      · exact ⟨r.2 - 1 - x, by omega, by omega, r, hm, by omega, by omega⟩
  · rintro ⟨s, s1, s2, r, hm, h1, h2⟩
    exact ⟨r, hm, by omega, by omega⟩
end Go.Proofs.Ytdoodmapmhibhaa
