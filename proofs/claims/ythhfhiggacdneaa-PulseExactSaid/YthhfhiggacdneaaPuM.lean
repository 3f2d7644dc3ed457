/-
  Layer 46: a motion's state after some ticks, and the steps made by then: what a tick does to them.
-/
import Derived.Test.YthhfhiggacdneaaPuE
namespace Go.Proofs.Ythhfhiggacdneaa
open Go
/-- After i ticks: dn steps are made, and the next one comes in wt ticks; or all are made. -/
def MoI (a b c d ac en cr ex t i dn wt : Int) : Prop := ∃ k : Nat, dn = k ∧ dsum a b c d ac en cr ex t k ≤ i ∧
  (((k : Int) < dom a b c d ∧ 1 ≤ wt ∧ i + wt = dsum a b c d ac en cr ex t (k + 1)) ∨ ((k : Int) = dom a b c d ∧ wt = 0 ∧ i = dsum a b c d ac en cr ex t k))
section
variable {a b c d ac en cr ex t : Int}
theorem stt_pos (hs : stt a b c d ac en cr ex t = true) {i : Int} (h1 : 1 ≤ i) (h2 : i ≤ dom a b c d) : 1 ≤ ivl (sq a b c d ac en cr ex i) t ∧ ivl (sq a b c d ac en cr ex i) t ≤ 1048576 := by
  have := stt_iff.1 hs
  exact ⟨iv_pos.2 ⟨hs, h1, h2⟩, (ivl_bd (sq_nonneg a b c d ac en cr ex i).2.1 this.2.1 this.2.2).2⟩
theorem dsum_succ (k : Nat) : dsum a b c d ac en cr ex t (k + 1) = dsum a b c d ac en cr ex t k + ivl (sq a b c d ac en cr ex ((k : Int) + 1)) t := rfl
theorem dsum_lt (hs : stt a b c d ac en cr ex t = true) : ∀ {k m : Nat}, k < m → (m : Int) ≤ dom a b c d → dsum a b c d ac en cr ex t k < dsum a b c d ac en cr ex t m
  | _, 0, h, _ => absurd h (Nat.not_lt_zero _)
  | k, m + 1, h, h2 => by
    have I := stt_pos hs (i := (m : Int) + 1) (by omega) (by omega)
    rw [dsum_succ]
    by_cases hk : k = m
    · subst hk; omega
    · have := dsum_lt hs (k := k) (m := m) (by omega) (by omega)
      omega
theorem MoI.start (hs : stt a b c d ac en cr ex t = true) : MoI a b c d ac en cr ex t 0 0 (ivl (sq a b c d ac en cr ex 1) t) := by
  have h1 := bv_dom (stt_iff.1 hs).1
  have I := stt_pos hs (i := 1) (by omega) (by omega)
  refine ⟨0, rfl, Int.le_refl _, .inl ⟨by omega, I.1, ?_⟩⟩
  rw [dsum_succ]
  show 0 + _ = 0 + ivl (sq a b c d ac en cr ex (0 + 1)) t
  rfl
/-- What a tick does before the end. -/
theorem MoI.tick (hs : stt a b c d ac en cr ex t = true) {i dn wt : Int} (h : MoI a b c d ac en cr ex t i dn wt) (hd : dn < dom a b c d) : 0 ≤ dn ∧ 1 ≤ wt ∧ wt ≤ ivl (sq a b c d ac en cr ex (dn + 1)) t ∧
    ((2 ≤ wt ∧ tkD a b c d ac en cr ex dn wt t = dn ∧ tkW a b c d ac en cr ex dn wt t = wt - 1 ∧ (∀ x, tkP a b c d ac en cr ex dn wt t x = 0) ∧ MoI a b c d ac en cr ex t (i + 1) dn (wt - 1)) ∨
     (wt = 1 ∧ tkD a b c d ac en cr ex dn wt t = dn + 1 ∧ tkW a b c d ac en cr ex dn wt t = ivl (sq a b c d ac en cr ex (dn + 2)) t ∧ (∀ x, tkP a b c d ac en cr ex dn wt t x = pul a b c d (dn + 1) x) ∧ MoI a b c d ac en cr ex t (i + 1) (dn + 1) (ivl (sq a b c d ac en cr ex (dn + 2)) t))) := by
  obtain ⟨k, rfl, hk, h⟩ := h
  have D := dom_in a b c d
  rcases h with ⟨_, hw, hi⟩ | ⟨h, _⟩
  rotate_left
  · omega
  have I := stt_pos hs (i := (k : Int) + 1) (by omega) (by omega)
  have hi0 := hi
  rw [dsum_succ] at hi
  have hwt : wt ≤ ivl (sq a b c d ac en cr ex ((k : Int) + 1)) t := by omega
  have w1 : IntKind.wrap IntKind.i64 ((k : Int) + 1) = k + 1 := wd (by omega)
  have w2 : IntKind.wrap IntKind.i64 ((k : Int) + 1 + 1) = k + 1 + 1 := wd (by omega)
  have w3 : IntKind.wrap IntKind.i64 (wt - 1) = wt - 1 := wd (by omega)
  have r : trun a b c d ac en cr ex (k : Int) wt t = true := by
    unfold trun
    rw [w1, decide_eq_true (show (k : Int) ≥ 0 by omega), decide_eq_true (show wt ≥ 1 by omega), decide_eq_true hwt]; rfl
  refine ⟨by omega, hw, hwt, ?_⟩
  by_cases h2 : 2 ≤ wt
  · left
    have g : tgo wt = true := by unfold tgo; rw [w3]; exact decide_eq_true (by omega)
    refine ⟨h2, ?_, ?_, fun x => ?_, ⟨k, rfl, by omega, .inl ⟨hd, by omega, by omega⟩⟩⟩
    · unfold tkD; rw [r, g]; rfl
    · unfold tkW; rw [r, g, w3]; rfl
    · unfold tkP; rw [r, g]; rfl
  · right
    have g : tgo wt = false := by unfold tgo; rw [w3]; exact decide_eq_false (by omega)
    have e2 : (k : Int) + 2 = k + 1 + 1 := by omega
    refine ⟨by omega, ?_, ?_, fun x => ?_, ⟨k + 1, by push_cast; rfl, by rw [dsum_succ]; omega, ?_⟩⟩
    · unfold tkD; rw [r, g, w1]; rfl
    · unfold tkW; rw [r, g, w1, w2, e2]; rfl
    · unfold tkP; rw [r, g, w1]; rfl
    · have hwt1 : wt = 1 := by omega
      by_cases he : ((k + 1 : Nat) : Int) = dom a b c d
      · right
        refine ⟨he, iv_zero (by omega), by omega⟩
      · left
        have I2 := stt_pos hs (i := (k : Int) + 2) (by omega) (by omega)
        refine ⟨by omega, I2.1, ?_⟩
        rw [dsum_succ, ← hi0, hwt1]
        push_cast
        rw [← e2]
/-- At the end, and where nothing is to come, a tick does nothing. -/
theorem tick_end {dn : Int} : tkD a b c d ac en cr ex dn 0 t = dn ∧ tkW a b c d ac en cr ex dn 0 t = 0 ∧ ∀ x, tkP a b c d ac en cr ex dn 0 t x = 0 := by
  have r : trun a b c d ac en cr ex dn 0 t = false := by
    unfold trun
    rw [decide_eq_false (show ¬ ((0 : Int) ≥ 1) by omega)]
    cases decide (dn ≥ 0) <;> rfl
  unfold tkD tkW tkP
  rw [r]
  exact ⟨rfl, rfl, fun _ => rfl⟩
theorem MoI.le {i dn wt : Int} (h : MoI a b c d ac en cr ex t i dn wt) : 0 ≤ dn ∧ dn ≤ dom a b c d := by
  obtain ⟨k, rfl, _, h⟩ := h
  rcases h with ⟨h, _⟩ | ⟨h, _⟩ <;> omega
/-- Before the duration's end the motion has not ended. -/
theorem MoI.lt (hs : stt a b c d ac en cr ex t = true) {i dn wt : Int} (h : MoI a b c d ac en cr ex t i dn wt) (hi : i < dsum a b c d ac en cr ex t (dom a b c d).toNat) : dn < dom a b c d := by
  obtain ⟨k, rfl, _, h⟩ := h
  rcases h with ⟨h, _⟩ | ⟨h1, h2, h3⟩
  · exact h
  · have : (dom a b c d).toNat = k := by omega
    rw [this] at hi; omega
theorem MoI.fin (hs : stt a b c d ac en cr ex t = true) {i dn wt : Int} (h : MoI a b c d ac en cr ex t i dn wt) (hi : i = dsum a b c d ac en cr ex t (dom a b c d).toNat) : dn = dom a b c d ∧ wt = 0 := by
  obtain ⟨k, rfl, _, h⟩ := h
  rcases h with ⟨h, h1, h2⟩ | ⟨h1, h2, h3⟩
  · have : dsum a b c d ac en cr ex t (k + 1) ≤ dsum a b c d ac en cr ex t (dom a b c d).toNat := by
      by_cases he : k + 1 = (dom a b c d).toNat
      · rw [he]; omega
      · have := dsum_lt hs (k := k + 1) (m := (dom a b c d).toNat) (by omega) (by omega)
        omega
    omega
  · exact ⟨h1, h2⟩
theorem cl_in {n i : Int} (h1 : 0 ≤ i) (h2 : i ≤ n) : cl n i = i := by unfold cl; omega
theorem qat_step {n i x : Int} (h : 1 ≤ n) (h2 : n ≤ 16777216) (hx : ab x ≤ n) (h0 : 0 ≤ i) (hi : i + 1 ≤ n) : qat n i x ≤ qat n (i + 1) x ∧ qat n (i + 1) x ≤ qat n i x + 1 := by
  have hy : 0 ≤ ab x := by unfold ab; omega
  unfold qat
  rw [cl_in h0 (by omega), cl_in (by omega) hi]
  generalize ab x = y at *
  have e : 2 * (i + 1) * y + n = 2 * i * y + n + 2 * y := by grind
  have e2 : 2 * i * y + n + (2 * n) * 1 = 2 * i * y + n + 2 * n := by omega
  rw [e]
  refine ⟨Int.ediv_le_ediv (by omega) (by omega), ?_⟩
  have := Int.add_mul_ediv_left (2 * i * y + n) 1 (show 2 * n ≠ 0 by omega)
  rw [← this, e2]
  exact Int.ediv_le_ediv (by omega) (by omega)
theorem qat_zero {n x : Int} (h : 1 ≤ n) : qat n 0 x = 0 := by
  unfold qat
  rw [cl_in (by omega) (by omega)]
  have : 2 * 0 * ab x + n = n := by omega
  rw [this]
  exact Int.ediv_eq_zero_of_lt (by omega) (by omega)
theorem qat_end {n x : Int} (h : 1 ≤ n) : qat n n x = ab x := by
  unfold qat
  rw [cl_in (by omega) (by omega)]
  have : 2 * n * ab x + n = n + 2 * n * ab x := by omega
  rw [this, Int.add_mul_ediv_left _ _ (show 2 * n ≠ 0 by omega), Int.ediv_eq_zero_of_lt (by omega) (by omega)]
  omega
theorem atc_step {n i x : Int} (h : 1 ≤ n) (h2 : n ≤ 16777216) (hx : ab x ≤ n) (h0 : 0 ≤ i) (hi : i + 1 ≤ n) : -1 ≤ atc n (i + 1) x - atc n i x ∧ atc n (i + 1) x - atc n i x ≤ 1 := by
  have := qat_step h h2 hx h0 hi
  unfold atc
  cases decide (x < 0)
  · simp only [cond_false]; omega
  · simp only [cond_true]; omega
theorem atc_zero {n x : Int} (h : 1 ≤ n) : atc n 0 x = 0 := by
  unfold atc; rw [qat_zero h]; cases decide (x < 0) <;> rfl
theorem atc_end {n x : Int} (h : 1 ≤ n) : atc n n x = x := by
  unfold atc; rw [qat_end h]
  by_cases hx : x < 0
  · rw [decide_eq_true hx, cond_true]; unfold ab; omega
  · rw [decide_eq_false hx, cond_false]; unfold ab; omega
theorem pul_eq (hv : dval a b c d = true) {i x : Int} (h1 : 0 ≤ i) (h2 : i < dom a b c d) : pul a b c d (i + 1) x = atv a b c d (i + 1) x - atv a b c d i x := by
  unfold pul
  rw [decide_eq_true (show 1 ≤ i + 1 by omega), decide_eq_true (show i + 1 ≤ dom a b c d by omega)]
  simp only [Bool.and_self, cond_true]
  have : i + 1 - 1 = i := by omega
  rw [this]
theorem atv_eq (hv : dval a b c d = true) (i x : Int) : atv a b c d i x = atc (dom a b c d) i x := by unfold atv; rw [hv]; rfl
theorem mdv_eq (hb : bval a b c d ac en cr ex = true) {i : Int} (h1 : 0 ≤ i) (h2 : i ≤ dom a b c d) (x : Int) : mdv a b c d ac en cr ex i x = atv a b c d i x := by
  unfold mdv
  rw [hb, decide_eq_false (show ¬ i < 0 by omega), decide_eq_false (show ¬ i > dom a b c d by omega)]; rfl
theorem edv_eq (hb : bval a b c d ac en cr ex = true) (i : Int) : edv a b c d ac en cr ex i = (i == dom a b c d) := by
  unfold edv; rw [hb]; rfl
/-- One tick before the end, all in one. -/
theorem MoI.step (hs : stt a b c d ac en cr ex t = true) {i dn wt : Int} (h : MoI a b c d ac en cr ex t i dn wt) (hd : dn < dom a b c d) :
    MoI a b c d ac en cr ex t (i + 1) (tkD a b c d ac en cr ex dn wt t) (tkW a b c d ac en cr ex dn wt t) ∧ (∀ x, tkP a b c d ac en cr ex dn wt t x = atv a b c d (tkD a b c d ac en cr ex dn wt t) x - atv a b c d dn x) ∧
    (∀ x, ab x ≤ dom a b c d → -1 ≤ tkP a b c d ac en cr ex dn wt t x ∧ tkP a b c d ac en cr ex dn wt t x ≤ 1) ∧ rvl a b c d ac en cr ex dn wt t = true ∧ edv a b c d ac en cr ex dn = false := by
  have hb := stt_iff.1 hs
  have hv := (bv_iff.1 hb.1).1
  have D := dv_ab hv
  obtain ⟨h0, hw, hw2, T⟩ := h.tick hs hd
  have r : rvl a b c d ac en cr ex dn wt t = true := by
    unfold rvl
    rw [hb.1, wd (x := dn + 1) (by omega), decide_eq_false (show ¬ t < 1 by omega), decide_eq_false (show ¬ t > 1048576 by omega), (beq_eq_false_iff_ne.2 (by omega) : (dn == dom a b c d) = false), decide_eq_true (show dn ≥ 0 by omega), decide_eq_true hd, decide_eq_true (show wt ≥ 1 by omega), decide_eq_true hw2]; rfl
  have e : edv a b c d ac en cr ex dn = false := by rw [edv_eq hb.1]; exact beq_eq_false_iff_ne.2 (by omega)
  rcases T with ⟨_, t1, t2, t3, t4⟩ | ⟨_, t1, t2, t3, t4⟩
  · refine ⟨by rw [t1, t2]; exact t4, fun x => by rw [t1, t3]; omega, fun x _ => by rw [t3]; omega, r, e⟩
  · refine ⟨by rw [t1, t2]; exact t4, fun x => by rw [t1, t3, pul_eq hv h0 hd], fun x hx => ?_, r, e⟩
    rw [t3, pul_eq hv h0 hd, atv_eq hv, atv_eq hv]
    exact atc_step D.1 D.2.1 hx h0 (by omega)
theorem dur_eq (hs : stt a b c d ac en cr ex t = true) (h : durE a b c d ac en cr ex t = 0) : durV a b c d ac en cr ex t = dsum a b c d ac en cr ex t (dom a b c d).toNat := by
  have hb := stt_iff.1 hs
  unfold durE at h
  rw [hb.1, decide_eq_true hb.2.1, decide_eq_true hb.2.2] at h
  have h3 : dom a b c d ≤ 65536 := by
    by_cases h3 : dom a b c d > 65536
    · rw [decide_eq_true h3] at h; simp at h
    · omega
  unfold durV
  rw [hb.1, decide_eq_true hb.2.1, decide_eq_true hb.2.2, decide_eq_true h3]; rfl
end
end Go.Proofs.Ythhfhiggacdneaa
