/-
  Texts in one: Mor, Mod.
-/
import Derived.Test.YtdoodmapmhibhaaRegM
namespace Go.Proofs.Ytdoodmapmhibhaa
theorem op1_nil (X : Rg) : opR 1 [] X = [] := by
  cases hx : valGB X
  · unfold opR; rw [hx, Bool.and_false]; rfl
  · exact empty_G (opR_val 1 [] X) fun x y => by rw [opR_mem valG_nil (valGB_iff.1 hx)]; rfl
theorem op1_r (X : Rg) : opR 1 X [] = [] := by
  cases hx : valGB X
  · unfold opR; rw [hx, Bool.false_and]; rfl
  · exact empty_G (opR_val 1 X []) fun x y => by rw [opR_mem (valGB_iff.1 hx) valG_nil, opE_1, memG_nil, Bool.and_false]
/-- Within, in members. -/
theorem sub_iff {A B : Rg} (ha : valG A) (hb : valG B) : opR 0 A B = [] ↔ ∀ x y, memG A x y = true → memG B x y = true := by
  constructor
  · intro h x y hx
    have := opR_mem ha hb 0 x y
    rw [h, memG_nil, opE_0, hx] at this
    simpa using this.symm
  · intro h
    refine empty_G (opR_val _ _ _) fun x y => ?_
    rw [opR_mem ha hb, opE_0]
    cases hx : memG A x y
    · rfl
    · rw [h x y hx]; rfl
end Go.Proofs.Ytdoodmapmhibhaa

namespace Go.Proofs.Ytdoodmapmhibhaa
theorem grw_ok {L : Rl} {k M : Int} (hv : valR L) (hb : ∀ r ∈ L, -M ≤ r.1 ∧ r.2 ≤ M) (k0 : 0 ≤ k) (hM : M + k ≤ 1048576) : valR (mrgR (mvR L (-k) k)) ∧ ∀ x, memB (mrgR (mvR L (-k) k)) x = true ↔ ∃ s, -k ≤ s ∧ s ≤ k ∧ memB L (x + s) = true := by
  have hin := val_in hv
  have em : mvR L (-k) k = L.map fun r => (r.1 + -k, r.2 + k) := mvR_map fun r hr => by have := hin r hr; omega
  have hp : (mvR L (-k) k).Pairwise fun a b => a.1 ≤ b.1 := by
    rw [em, List.pairwise_map]
    exact hv.1.pair.1.imp fun {a b} h => by show a.1 + -k ≤ b.1 + -k; omega
  have hr : ∀ q ∈ mvR L (-k) k, q.1 < q.2 ∧ -1048577 < q.1 ∧ q.2 ≤ 1048576 := fun q hq => by
    rw [em] at hq
    obtain ⟨r, hr, rfl⟩ := List.mem_map.1 hq
    have a := hin r hr
    have b := hb r hr
    exact ⟨by show r.1 + -k < r.2 + k; omega, by show -1048577 < r.1 + -k; omega, by show r.2 + k ≤ 1048576; omega⟩
  obtain ⟨m1, m2, m3⟩ := mrgR_ok (fun q hq => ⟨(hr q hq).1, (hr q hq).2.1⟩) hp
  refine ⟨⟨m1, m3 1048576 (by omega) fun q hq => (hr q hq).2.2⟩, fun x => ?_⟩
  rw [memB_iff, m2, mem_grow (fun r hr => (hin r hr).2.1) k0]
  constructor
  · rintro ⟨s, h1, h2, h3⟩; exact ⟨s, h1, h2, memB_iff.2 h3⟩
  · rintro ⟨s, h1, h2, h3⟩; exact ⟨s, h1, h2, memB_iff.1 h3⟩
theorem nr_shr {k : Int} (k0 : 0 ≤ k) : ∀ {L : Rl} {lo : Int}, Nr lo L → Nr lo (mvR L k (-k))
  | [], _, _ => trivial
  | r :: L, lo, ⟨h1, h2, h3⟩ => by
    have ih := nr_shr k0 h3
    unfold mvR at ih ⊢
    by_cases g : r.1 + k < r.2 + -k
    · rw [List.filter_cons_of_pos (by simpa using g)]
      exact ⟨by show lo < r.1 + k; omega, g, ih.weak (by show r.2 + -k ≤ r.2; omega)⟩
    · rw [List.filter_cons_of_neg (by simpa using g)]
      exact ih.weak (by omega)
theorem shr_ok {L : Rl} {k : Int} (hv : valR L) (k0 : 0 ≤ k) : valR (mvR L k (-k)) ∧ ∀ x, memB (mvR L k (-k)) x = true ↔ ∀ s, -k ≤ s → s ≤ k → memB L (x + s) = true := by
  refine ⟨⟨nr_shr k0 hv.1, endR_lt (by decide) fun q hq => ?_⟩, fun x => ?_⟩
  · obtain ⟨r, hr, rfl⟩ := List.mem_map.1 hq
    have := val_in hv r (List.mem_filter.1 hr).1
    show r.2 + -k ≤ 1048576
    omega
  · rw [memB_iff, mem_shrink hv.1 k0]
    constructor
    · intro h s a b; exact memB_iff.2 (h s a b)
    · intro h s a b; exact memB_iff.1 (h s a b)
/-- Widened: grown or shrunk. -/
noncomputable def wdR (q : Bool) (L : Rl) (k : Int) : Rl := bif q then mrgR (mvR L (-k) k) else mvR L k (-k)
def Wd (q : Bool) (L : Rl) (k x : Int) : Prop := match q with
  | true => ∃ s, -k ≤ s ∧ s ≤ k ∧ memB L (x + s) = true
  | false => ∀ s, -k ≤ s → s ≤ k → memB L (x + s) = true
theorem wd_ok (q : Bool) {L : Rl} {k M : Int} (hv : valR L) (hb : ∀ r ∈ L, -M ≤ r.1 ∧ r.2 ≤ M) (k0 : 0 ≤ k) (hM : M + k ≤ 1048576) : valR (wdR q L k) ∧ ∀ x, memB (wdR q L k) x = true ↔ Wd q L k x := by
  cases q
  · exact shr_ok hv k0
  · exact grw_ok hv hb k0 hM
/-- Members and runs within bounds. -/
theorem in_bd {L : Rl} {M : Int} (h : ∀ r ∈ L, -M ≤ r.1 ∧ r.2 ≤ M) {x : Int} (hx : memB L x = true) : -M ≤ x ∧ x < M := by
  obtain ⟨r, hr, h1, h2⟩ := memB_iff.1 hx
  have := h r hr
  omega
theorem bd_in {L : Rl} {M : Int} (hv : valR L) (h : ∀ x, memB L x = true → -M ≤ x ∧ x < M) : ∀ r ∈ L, -M ≤ r.1 ∧ r.2 ≤ M := fun r hr => by
  have a := val_in hv r hr
  have b := h r.1 (memB_iff.2 ⟨r, hr, Int.le_refl _, a.2.1⟩)
  have c := h (r.2 - 1) (memB_iff.2 ⟨r, hr, by omega, by omega⟩)
  omega
theorem bd_len {L : Rl} {M : Int} (hv : valR L) (h : ∀ r ∈ L, -M ≤ r.1 ∧ r.2 ≤ M) (hM : 0 ≤ M) : (L.length : Int) ≤ M + 1 := by
  cases L with
  | nil => show ((0 : Nat) : Int) ≤ M + 1; omega
  | cons q N =>
    have h1 : Nr (-M - 1) (q :: N) := ⟨by have := (h q (List.mem_cons_self ..)).1; omega, hv.1.2⟩
    have h2 := nr_len h1
    have h3 : endR (-M - 1) (q :: N) ≤ M := endR_lt (by omega) fun r hr => (h r hr).2
    omega
/-! Boxes. -/
def hdX (r : Int × Rl) : Int := (r.2.getD 0 (0, 0)).1
def tlX (r : Int × Rl) : Int := (lastR r.2).2 - 1
def loX (R : Rg) : Int := R.foldl (fun a r => min a (hdX r)) 4096
def hiX (R : Rg) : Int := R.foldl (fun a r => max a (tlX r)) (-4096)
def loY (R : Rg) : Int := (R.getD 0 (0, [])).1
def hiY (R : Rg) : Int := (R.getD (R.length - 1) (0, [])).1
theorem loX_take {R : Rg} {j : Nat} (hj : j < R.length) : loX (R.take (j + 1)) = min (loX (R.take j)) (hdX R[j]) := by
  unfold loX
  rw [List.take_succ_eq_append_getElem hj, List.foldl_append]; rfl
theorem hiX_take {R : Rg} {j : Nat} (hj : j < R.length) : hiX (R.take (j + 1)) = max (hiX (R.take j)) (tlX R[j]) := by
  unfold hiX
  rw [List.take_succ_eq_append_getElem hj, List.foldl_append]; rfl
theorem fold_min (f : Int × Rl → Int) : ∀ (R : Rg) (a : Int), R.foldl (fun a r => min a (f r)) a ≤ a ∧ (∀ r ∈ R, R.foldl (fun a r => min a (f r)) a ≤ f r) ∧ (R.foldl (fun a r => min a (f r)) a = a ∨ ∃ r ∈ R, R.foldl (fun a r => min a (f r)) a = f r)
  | [], a => ⟨Int.le_refl _, fun r hr => (by cases hr), .inl rfl⟩
  | q :: R, a => by
    obtain ⟨h1, h2, h3⟩ := fold_min f R (min a (f q))
    rw [List.foldl_cons]
    refine ⟨by omega, fun r hr => ?_, ?_⟩
    · rcases List.mem_cons.1 hr with rfl | hr
      · omega
      · exact h2 r hr
    · rcases h3 with h3 | ⟨r, hr, h3⟩
      · rcases (show min a (f q) = a ∨ min a (f q) = f q by omega) with e | e
        · exact .inl (h3.trans e)
        · exact .inr ⟨q, List.mem_cons_self .., h3.trans e⟩
      · exact .inr ⟨r, List.mem_cons_of_mem _ hr, h3⟩
theorem fold_max (f : Int × Rl → Int) : ∀ (R : Rg) (a : Int), a ≤ R.foldl (fun a r => max a (f r)) a ∧ (∀ r ∈ R, f r ≤ R.foldl (fun a r => max a (f r)) a) ∧ (R.foldl (fun a r => max a (f r)) a = a ∨ ∃ r ∈ R, R.foldl (fun a r => max a (f r)) a = f r)
  | [], a => ⟨Int.le_refl _, fun r hr => (by cases hr), .inl rfl⟩
  | q :: R, a => by
    obtain ⟨h1, h2, h3⟩ := fold_max f R (max a (f q))
    rw [List.foldl_cons]
    refine ⟨by omega, fun r hr => ?_, ?_⟩
    · rcases List.mem_cons.1 hr with rfl | hr
      · omega
      · exact h2 r hr
    · rcases h3 with h3 | ⟨r, hr, h3⟩
      · rcases (show max a (f q) = a ∨ max a (f q) = f q by omega) with e | e
        · exact .inl (h3.trans e)
        · exact .inr ⟨q, List.mem_cons_self .., h3.trans e⟩
      · exact .inr ⟨r, List.mem_cons_of_mem _ hr, h3⟩
theorem row_ends {r : Int × Rl} (h : rowOk r) : memB r.2 (hdX r) = true ∧ memB r.2 (tlX r) = true ∧ (∀ x, memB r.2 x = true → hdX r ≤ x ∧ x ≤ tlX r) ∧ 0 < r.2.length := by
  have hv := rowOk_val h
  have hp : 0 < r.2.length := by
    have := h.2.2.1
    rcases Nat.eq_zero_or_pos r.2.length with e | e
    · exact absurd (List.length_eq_zero_iff.1 e) this
    · exact e
  have e1 : hdX r = r.2[0].1 := by unfold hdX; rw [List.getD, List.getElem?_eq_getElem hp]; rfl
  have e2 : tlX r = (r.2[r.2.length - 1]'(by omega)).2 - 1 := by unfold tlX lastR; rw [List.getD, List.getElem?_eq_getElem (by omega)]; rfl
  have g0 := good_in hv hp
  have g1 := good_in hv (j := r.2.length - 1) (by omega)
  refine ⟨?_, ?_, fun x hx => ?_, hp⟩
  · rw [e1]; exact memB_iff.2 ⟨_, List.getElem_mem hp, Int.le_refl _, g0.2.1⟩
  · rw [e2]; exact memB_iff.2 ⟨_, List.getElem_mem (show r.2.length - 1 < r.2.length by omega), by omega, by omega⟩
  · obtain ⟨s, hs, a, b⟩ := memB_iff.1 hx
    have := val_ends hv hp s hs
    rw [e1, e2]; omega
theorem memG_row {R : Rg} (h : valG R) {r : Int × Rl} (hr : r ∈ R) {x : Int} (hx : memB r.2 x = true) : memG R x r.1 = true := by
  unfold memG
  rw [List.any_eq_true]
  exact ⟨r, hr, by rw [decide_eq_true rfl, hx]; rfl⟩
theorem row_of {R : Rg} {x y : Int} (h : memG R x y = true) : ∃ r ∈ R, r.1 = y ∧ memB r.2 x = true := by
  unfold memG at h
  rw [List.any_eq_true] at h
  obtain ⟨r, hr, h⟩ := h
  rw [Bool.and_eq_true, decide_eq_true_eq] at h
  exact ⟨r, hr, h.1, h.2⟩
theorem ng_asc : ∀ {R : Rg} {lo : Int}, Ng lo R → ∀ i j (hi : i < R.length) (hj : j < R.length), i < j → R[i].1 < R[j].1
  | [], _, _, i, j, hi, _, _ => absurd hi (by simp)
  | r :: R, lo, ⟨_, _, h3⟩, i, j, hi, hj, hij => by
    obtain ⟨j, rfl⟩ : ∃ k, j = k + 1 := ⟨j - 1, by omega⟩
    have hj' : j < R.length := by simpa using hj
    cases i with
    | zero => exact h3.head _ (List.getElem_mem hj')
    | succ i => exact ng_asc h3 i j (by simpa using hi) hj' (by omega)
/-- What a box is. -/
theorem box_ok {R : Rg} (h : valG R) (hp : 0 < R.length) : (∀ x y, memG R x y = true → loX R ≤ x ∧ x ≤ hiX R ∧ loY R ≤ y ∧ y ≤ hiY R) ∧ (∃ y, memG R (loX R) y = true) ∧ (∃ y, memG R (hiX R) y = true) ∧ (∃ x, memG R x (loY R) = true) ∧ ∃ x, memG R x (hiY R) = true := by
  have e1 : loY R = R[0].1 := by unfold loY; rw [List.getD, List.getElem?_eq_getElem hp]; rfl
  have e2 : hiY R = (R[R.length - 1]'(by omega)).1 := by unfold hiY; rw [List.getD, List.getElem?_eq_getElem (by omega)]; rfl
  have hrow := Ng.rows h
  obtain ⟨a1, a2, a3⟩ := fold_min hdX R 4096
  obtain ⟨b1, b2, b3⟩ := fold_max tlX R (-4096)
  refine ⟨fun x y hm => ?_, ?_, ?_, ?_, ?_⟩
  · obtain ⟨r, hr, rfl, hx⟩ := row_of hm
    have := (row_ends (hrow r hr)).2.2.1 x hx
    have := a2 r hr
    have := b2 r hr
    obtain ⟨i, hi, rfl⟩ := List.mem_iff_getElem.1 hr
    rw [e1, e2]
    refine ⟨by unfold loX; omega, by unfold hiX; omega, ?_, ?_⟩
    · rcases Nat.eq_zero_or_pos i with e | e
      · subst e; exact Int.le_refl _
      · have := ng_asc h 0 i hp hi e; omega
    · rcases (show i = R.length - 1 ∨ i < R.length - 1 by omega) with e | e
      · subst e; exact Int.le_refl _
      · have := ng_asc h i (R.length - 1) hi (by omega) e; omega
  · rcases a3 with e | ⟨r, hr, e⟩
    · have h0 := hrow _ (List.getElem_mem hp)
      have := a2 _ (List.getElem_mem hp)
      have := rowOk_in h0 (row_ends h0).1
      omega
    · exact ⟨r.1, by unfold loX; rw [e]; exact memG_row h hr (row_ends (hrow r hr)).1⟩
  · rcases b3 with e | ⟨r, hr, e⟩
    · have h0 := hrow _ (List.getElem_mem hp)
      have := b2 _ (List.getElem_mem hp)
      have := rowOk_in h0 (row_ends h0).2.1
      have ht : hiX R = -4096 := e
      refine ⟨(R[0]).1, ?_⟩
      have : tlX R[0] = -4096 := by omega
      rw [ht, ← this]
      exact memG_row h (List.getElem_mem hp) (row_ends h0).2.1
    · exact ⟨r.1, by unfold hiX; rw [e]; exact memG_row h hr (row_ends (hrow r hr)).2.1⟩
  · obtain ⟨x, hx⟩ := rowOk_some (hrow _ (List.getElem_mem hp))
    exact ⟨x, by rw [e1]; exact memG_row h (List.getElem_mem hp) hx⟩
  · obtain ⟨x, hx⟩ := rowOk_some (hrow _ (List.getElem_mem (show R.length - 1 < R.length by omega)))
    exact ⟨x, by rw [e2]; exact memG_row h (List.getElem_mem _) hx⟩
/-- There is room for a reach around a region. -/
def fitsG (R : Rg) (k : Int) : Prop := ∀ x y, memG R x y = true → -4096 ≤ x - k ∧ x + k < 4096 ∧ -4096 ≤ y - k ∧ y + k < 4096
theorem fits_iff {R : Rg} {k : Int} (h : valG R) (hp : 0 < R.length) : fitsG R k ↔ ¬ (min (loX R) (loY R) - k < -4096 ∨ max (hiX R) (hiY R) + k ≥ 4096) := by
  obtain ⟨h1, ⟨y1, h2⟩, ⟨y2, h3⟩, ⟨x1, h4⟩, ⟨x2, h5⟩⟩ := box_ok h hp
  constructor
  · intro g
    have g2 := g _ _ h2
    have g3 := g _ _ h3
    have g4 := g _ _ h4
    have g5 := g _ _ h5
    omega
  · intro g x y hm
    have := h1 x y hm
    omega
/-! Rows without gaps. -/
def rowY (R : Rg) (y : Int) : Rl := R.foldl (fun acc r => if r.1 = y then r.2 else acc) []
theorem rowY_take {R : Rg} {j : Nat} (hj : j < R.length) (y : Int) : rowY (R.take (j + 1)) y = if R[j].1 = y then R[j].2 else rowY (R.take j) y := by
  unfold rowY
  rw [List.take_succ_eq_append_getElem hj, List.foldl_append]; rfl
theorem rowY_acc : ∀ {R : Rg} {lo : Int} (y : Int) (acc : Rl), Ng lo R → ((R.foldl (fun acc r => if r.1 = y then r.2 else acc) acc = acc ∧ ∀ x, memG R x y = false) ∨ ∃ r ∈ R, r.1 = y ∧ R.foldl (fun acc r => if r.1 = y then r.2 else acc) acc = r.2 ∧ ∀ x, memG R x y = memB r.2 x)
  | [], _, _, _, _ => .inl ⟨rfl, fun _ => rfl⟩
  | q :: R, lo, y, acc, ⟨_, h2, h3⟩ => by
    rw [List.foldl_cons]
    by_cases e : q.1 = y
    · rw [if_pos e]
      refine .inr ⟨q, List.mem_cons_self .., e, ?_, fun x => ?_⟩
      · rcases rowY_acc y q.2 h3 with ⟨g, _⟩ | ⟨r, hr, e2, _⟩
        · exact g
        · have := h3.head r hr; omega
      · rw [memG_cons, decide_eq_true e, h3.low (by omega), Bool.true_and, Bool.or_false]
    · rw [if_neg e]
      have em : ∀ x, memG (q :: R) x y = memG R x y := fun x => by rw [memG_cons, decide_eq_false e, Bool.false_and, Bool.false_or]
      rcases rowY_acc y acc h3 with ⟨g, g2⟩ | ⟨r, hr, e2, g, g2⟩
      · exact .inl ⟨g, fun x => (em x).trans (g2 x)⟩
      · exact .inr ⟨r, List.mem_cons_of_mem _ hr, e2, g, fun x => (em x).trans (g2 x)⟩
theorem rowY_ok {R : Rg} (h : valG R) (y : Int) : valR (rowY R y) ∧ (∀ x, memB (rowY R y) x = memG R x y) ∧ ∀ r ∈ rowY R y, -4096 ≤ r.1 ∧ r.2 ≤ 4096 := by
  rcases rowY_acc y [] h with ⟨g, g2⟩ | ⟨r, hr, e, g, g2⟩
  · unfold rowY
    rw [g]
    exact ⟨valR_nil, fun x => (g2 x).symm, fun r hr => by cases hr⟩
  · unfold rowY
    rw [g]
    have k := Ng.rows h r hr
    exact ⟨rowOk_val k, fun x => (g2 x).symm, bd_in (rowOk_val k) fun x hx => rowOk_in k hx⟩
/-! Windows. -/
def Pw (q : Bool) (f : Nat → Rl) (s i : Nat) (x : Int) : Prop := match q with
  | true => ∃ j, j < s ∧ memB (f (i + j)) x = true
  | false => ∀ j, j < s → memB (f (i + j)) x = true
structure Wn (q : Bool) (f : Nat → Rl) (n s : Nat) (l : List Rl) : Prop where
  len : l.length = n - (s - 1)
  val : ∀ i, i < l.length → valR (l.getD i [])
  mem : ∀ i, i < l.length → ∀ x, memB (l.getD i []) x = true ↔ Pw q f s i x
def anq (q : Bool) : Int := bif q then 2 else 1
theorem pw_step (q : Bool) (f : Nat → Rl) {s t i : Nat} (h1 : t ≤ s) (x : Int) (a b : Bool) (ha : a = true ↔ Pw q f s i x) (hb : b = true ↔ Pw q f s (i + t) x) : opE (anq q) a b = true ↔ Pw q f (s + t) i x := by
  cases q
  · show (a && b) = true ↔ _
    rw [Bool.and_eq_true, ha, hb]
    show ((∀ j, j < s → _) ∧ (∀ j, j < s → _)) ↔ ∀ j, j < s + t → _
    constructor
    · rintro ⟨h3, h4⟩ j hj
      by_cases g : j < s
      · exact h3 j g
      · have := h4 (j - t) (by omega)
        rwa [show i + t + (j - t) = i + j by omega] at this
    · intro h3
      exact ⟨fun j hj => h3 j (by omega), fun j hj => by rw [show i + t + j = i + (t + j) by omega]; exact h3 (t + j) (by omega)⟩
  · show (a || b) = true ↔ _
    rw [Bool.or_eq_true, ha, hb]
    show ((∃ j, j < s ∧ _) ∨ (∃ j, j < s ∧ _)) ↔ ∃ j, j < s + t ∧ _
    constructor
    · rintro (⟨j, hj, h3⟩ | ⟨j, hj, h3⟩)
      · exact ⟨j, by omega, h3⟩
      · exact ⟨t + j, by omega, by rw [show i + (t + j) = i + t + j by omega]; exact h3⟩
    · rintro ⟨j, hj, h3⟩
      by_cases g : j < s
      · exact .inl ⟨j, g, h3⟩
      · exact .inr ⟨j - t, by omega, by rw [show i + t + (j - t) = i + j by omega]; exact h3⟩
theorem wn_step {q : Bool} {f : Nat → Rl} {n s t : Nat} {l : List Rl} (w : Wn q f n s l) (h0 : 0 < s) (ht : t ≤ s) : Wn q f n (s + t) (tab (l.length - t) fun i => chL (l.getD i []) (l.getD (i + t) []) (anq q)) := by
  have hl := w.len
  have e : ∀ i, i < l.length - t → (tab (l.length - t) fun i => chL (l.getD i []) (l.getD (i + t) []) (anq q)).getD i [] = chL (l.getD i []) (l.getD (i + t) []) (anq q) := fun i hi => tab_getD _ hi
  have hlen : (tab (l.length - t) fun i => chL (l.getD i []) (l.getD (i + t) []) (anq q)).length = l.length - t := tab_length _ _
  refine ⟨by rw [hlen]; omega, fun i hi => ?_, fun i hi x => ?_⟩
  · rw [hlen] at hi
    rw [e i hi]
    exact (ch_ok (w.val i (by omega)) (w.val (i + t) (by omega)) (anq q)).1
  · rw [hlen] at hi
    rw [e i hi, (ch_ok (w.val i (by omega)) (w.val (i + t) (by omega)) (anq q)).2]
    exact pw_step q f ht x _ _ (w.mem i (by omega) x) (w.mem (i + t) (by omega) x)
/-! Successive rows as a region. -/
def rgN (f : Nat → Rl) (y : Int) : Nat → Rg
  | 0 => []
  | n + 1 => rgN f y n ++ emit (y + (n : Int)) (f n)
theorem ng_app : ∀ {A : Rg} {lo hi : Int} {l : Rl}, Ng lo A → (∀ r ∈ A, r.1 < hi) → lo < hi → (0 < l.length → rowOk (hi, l)) → Ng lo (A ++ emit hi l)
  | [], lo, hi, l, _, _, h, ho => by
    show Ng lo (emit hi l)
    unfold emit
    by_cases g : 0 < l.length
    · rw [decide_eq_true g]; exact ⟨h, ho g, trivial⟩
    · rw [decide_eq_false g]; trivial
  | a :: A, lo, hi, l, ⟨a1, a2, a3⟩, hr, h, ho => ⟨a1, a2, ng_app a3 (fun r hr' => hr r (List.mem_cons_of_mem _ hr')) (hr a (List.mem_cons_self ..)) ho⟩
theorem rgN_len (f : Nat → Rl) (y : Int) : ∀ n, (rgN f y n).length ≤ n
  | 0 => Nat.le_refl _
  | n + 1 => by
    have := rgN_len f y n
    have h : (emit (y + (n : Int)) (f n)).length ≤ 1 := by unfold emit; cases decide (0 < (f n).length) <;> simp
    show (rgN f y n ++ emit (y + (n : Int)) (f n)).length ≤ n + 1
    rw [List.length_append]; omega
theorem rgN_ok {f : Nat → Rl} {y : Int} : ∀ {n : Nat}, (∀ i, i < n → valR (f i) ∧ (∀ x, memB (f i) x = true → -4096 ≤ x ∧ x < 4096) ∧ (0 < (f i).length → -4096 ≤ y + i ∧ y + i < 4096)) → valG (rgN f y n) ∧ (∀ r ∈ rgN f y n, r.1 < y + (n : Int)) ∧ ∀ x z, memG (rgN f y n) x z = true ↔ ∃ i, i < n ∧ z = y + (i : Int) ∧ memB (f i) x = true
  | 0, _ => ⟨trivial, (fun r hr => by cases hr), fun x z => ⟨fun h => (by cases h), fun ⟨i, hi, _⟩ => absurd hi (Nat.not_lt_zero _)⟩⟩
  | n + 1, h => by
    obtain ⟨a1, a2, a3⟩ := rgN_ok (n := n) (f := f) (y := y) fun i hi => h i (by omega)
    obtain ⟨b1, b2, b3⟩ := h n (by omega)
    have em : ∀ x z, memG (emit (y + (n : Int)) (f n)) x z = (decide (y + (n : Int) = z) && memB (f n) x) := fun x z => by
      unfold emit
      by_cases h0 : 0 < (f n).length
      · rw [decide_eq_true h0, cond_true, memG_cons, memG_nil, Bool.or_false]
      · have : f n = [] := List.length_eq_zero_iff.1 (by omega)
        rw [decide_eq_false h0, cond_false, memG_nil, this]
        exact (Bool.and_false _).symm
    refine ⟨?_, fun r hr => ?_, fun x z => ?_⟩
    · by_cases g : 0 < (f n).length
      · obtain ⟨r1, r2⟩ := nr_range b1 b2
        refine ng_app a1 a2 (by have := b3 g; omega) fun _ => ⟨(b3 g).1, (b3 g).2, fun e => ?_, r1, r2⟩
        have e : f n = [] := e
        rw [e] at g; exact absurd g (by decide)
      · have e : emit (y + (n : Int)) (f n) = [] := by unfold emit; rw [decide_eq_false g]; rfl
        show Ng (-4097) (rgN f y n ++ emit (y + (n : Int)) (f n))
        rw [e, List.append_nil]; exact a1
    · rcases List.mem_append.1 hr with hr | hr
      · have := a2 r hr; omega
      · unfold emit at hr
        cases hd : decide (0 < (f n).length)
        · rw [hd] at hr; cases hr
        · rw [hd] at hr
          rcases List.mem_cons.1 hr with rfl | hr
          · show y + (n : Int) < y + ((n + 1 : Nat) : Int); omega
          · cases hr
    · show memG (rgN f y n ++ emit (y + (n : Int)) (f n)) x z = true ↔ _
      rw [memG_app, Bool.or_eq_true, a3, em, Bool.and_eq_true, decide_eq_true_eq]
      constructor
      · rintro (⟨i, hi, g⟩ | ⟨g1, g2⟩)
        · exact ⟨i, by omega, g⟩
        · exact ⟨n, by omega, g1.symm, g2⟩
      · rintro ⟨i, hi, g1, g2⟩
        rcases (show i < n ∨ i = n by omega) with k | k
        · exact .inl ⟨i, k, g1, g2⟩
        · subst k; exact .inr ⟨g1.symm, g2⟩
theorem wn_unique {q : Bool} {f : Nat → Rl} {n s : Nat} {l m : List Rl} (a : Wn q f n s l) (b : Wn q f n s m) : l = m := by
  have hl : l.length = m.length := by rw [a.len, b.len]
  refine List.ext_getElem hl fun i h1 h2 => ?_
  have e1 : l.getD i [] = l[i] := by rw [List.getD, List.getElem?_eq_getElem h1]; rfl
  have e2 : m.getD i [] = m[i] := by rw [List.getD, List.getElem?_eq_getElem h2]; rfl
  rw [← e1, ← e2]
  exact memB_ext (a.val i h1).1 (b.val i h2).1 fun x => by rw [Bool.eq_iff_iff, a.mem i h1, b.mem i h2]
/-- Rows that may be joined: valid, and not too far out. -/
def Rws (l : List Rl) : Prop := l.length ≤ 20000 ∧ ∀ i, valR (l.getD i []) ∧ ∀ x, memB (l.getD i []) x = true → -5000 ≤ x ∧ x < 5000
theorem rws_len {l : List Rl} (h : Rws l) (i : Nat) : (l.getD i []).length ≤ 10000 := by
  have := bd_len (M := 5000) (h.2 i).1 (bd_in (h.2 i).1 (h.2 i).2) (by omega)
  omega
theorem wn_rws {q : Bool} {W : List Rl} {s : Nat} {l : List Rl} (hW : Rws W) (w : Wn q (fun i => W.getD i []) W.length s l) (h0 : 0 < s) : Rws l := by
  refine ⟨by have := w.len; have := hW.1; omega, fun i => ?_⟩
  by_cases hi : i < l.length
  · refine ⟨w.val i hi, fun x hx => ?_⟩
    have := (w.mem i hi x).1 hx
    cases q
    · exact (hW.2 (i + 0)).2 x (this 0 h0)
    · obtain ⟨j, _, hj⟩ := this
      exact (hW.2 (i + j)).2 x hj
  · have e : l.getD i [] = [] := by rw [List.getD, List.getElem?_eq_none (by omega)]; rfl
    rw [e]
    exact ⟨valR_nil, fun x hx => by cases hx⟩
theorem wn_one {q : Bool} {W : List Rl} (hW : Rws W) : Wn q (fun i => W.getD i []) W.length 1 W where
  len := by omega
  val := fun i _ => (hW.2 i).1
  mem := fun i _ x => by
    cases q
    · constructor
      · intro h j hj
        have : j = 0 := by omega
        subst this; exact h
      · intro h; exact h 0 (by omega)
    · constructor
      · intro h; exact ⟨0, by omega, h⟩
      · rintro ⟨j, hj, h⟩
        have : j = 0 := by omega
        subst this; exact h
noncomputable def wnV (q : Bool) (W : List Rl) (n : Int) : List Rl := @dite _ (∃ l, Wn q (fun i => W.getD i []) W.length n.toNat l) (Classical.propDecidable _) (fun h => h.choose) (fun _ => [])
theorem wnV_eq {q : Bool} {W : List Rl} {n : Nat} {l : List Rl} (w : Wn q (fun i => W.getD i []) W.length n l) : wnV q W (n : Int) = l := by
  have w' : Wn q (fun i => W.getD i []) W.length ((n : Int)).toNat l := by rw [Int.toNat_natCast]; exact w
  have h : ∃ l, Wn q (fun i => W.getD i []) W.length ((n : Int)).toNat l := ⟨l, w'⟩
  unfold wnV
  rw [dif_pos h]
  exact wn_unique h.choose_spec w'
noncomputable def wiOk (W : List Rl) (n : Int) : Bool := @decide (Rws W ∧ 1 ≤ n ∧ n ≤ 200) (Classical.propDecidable _)
theorem wiOk_iff {W : List Rl} {n : Int} : wiOk W n = true ↔ Rws W ∧ 1 ≤ n ∧ n ≤ 200 := by unfold wiOk; simp
/-- The region of a set, if it has one. -/
noncomputable def nfG (p : Int → Int → Prop) : Rg := @dite Rg (∃ R : Rg, valG R ∧ ∀ x y, memG R x y = true ↔ p x y) (Classical.propDecidable _) (fun h => h.choose) (fun _ => [])
theorem nfG_eq {p : Int → Int → Prop} {R : Rg} (h : valG R) (hm : ∀ x y, memG R x y = true ↔ p x y) : nfG p = R := by
  have hex : ∃ R : Rg, valG R ∧ ∀ x y, memG R x y = true ↔ p x y := ⟨R, h, hm⟩
  unfold nfG
  rw [dif_pos hex]
  obtain ⟨h1, h2⟩ := hex.choose_spec
  exact val_ext h1 h fun x y => by rw [Bool.eq_iff_iff, h2, hm]
theorem nfG_val (p : Int → Int → Prop) : valG (nfG p) := by
  unfold nfG
  by_cases h : ∃ R : Rg, valG R ∧ ∀ x y, memG R x y = true ↔ p x y
  · rw [dif_pos h]; exact h.choose_spec.1
  · rw [dif_neg h]; exact valG_nil
theorem nfG_mem {p : Int → Int → Prop} (h : ∃ R : Rg, valG R ∧ ∀ x y, memG R x y = true ↔ p x y) (x y : Int) : memG (nfG p) x y = true ↔ p x y := by
  obtain ⟨R, h1, h2⟩ := h
  rw [nfG_eq h1 h2, h2]
def rgOk (W : List Rl) (f : Int) : Bool := decide (W.length ≤ 50000) && (decide (-100000 ≤ f) && decide (f ≤ 100000))
end Go.Proofs.Ytdoodmapmhibhaa

namespace Go.Proofs.Ytdoodmapmhibhaa
def Sq (q : Bool) (R : Rg) (k x y : Int) : Prop := match q with
  | true => ∃ dx dy, -k ≤ dx ∧ dx ≤ k ∧ -k ≤ dy ∧ dy ≤ k ∧ memG R (x + dx) (y + dy) = true
  | false => ∀ dx dy, -k ≤ dx → dx ≤ k → -k ≤ dy → dy ≤ k → memG R (x + dx) (y + dy) = true
theorem wn_exists (q : Bool) {W : List Rl} (hW : Rws W) : ∀ s, 0 < s → ∃ l, Wn q (fun i => W.getD i []) W.length s l
  | 0, h => absurd h (Nat.lt_irrefl _)
  | 1, _ => ⟨W, wn_one hW⟩
  | s + 2, _ => by
    obtain ⟨l, hl⟩ := wn_exists q hW (s + 1) (by omega)
    exact ⟨_, wn_step (s := s + 1) (t := 1) hl (by omega) (by omega)⟩
theorem wnV_ok (q : Bool) {W : List Rl} (hW : Rws W) {n : Nat} (h : 0 < n) : Wn q (fun i => W.getD i []) W.length n (wnV q W (n : Int)) := by
  obtain ⟨l, hl⟩ := wn_exists q hW n h
  rw [wnV_eq hl]; exact hl
theorem some_mem {L : Rl} (h : valR L) (h0 : 0 < L.length) : ∃ x, memB L x = true := by
  have := good_in h h0
  exact ⟨L[0].1, memB_iff.2 ⟨_, List.getElem_mem h0, Int.le_refl _, this.2.1⟩⟩
theorem tab_rows {N : Nat} {g : Nat → Rl} (i : Nat) : (tab N g).getD i [] = if i < N then g i else [] := by
  by_cases h : i < N
  · rw [if_pos h]; exact tab_getD _ h
  · rw [if_neg h, List.getD, List.getElem?_eq_none (by rw [tab_length]; omega)]; rfl
theorem wd_row (q : Bool) {R : Rg} (h : valG R) {k : Int} (k0 : 0 ≤ k) (k1 : k ≤ 64) (y : Int) : valR (wdR q (rowY R y) k) ∧ ∀ x, memB (wdR q (rowY R y) k) x = true ↔ Wd q (rowY R y) k x := by
  obtain ⟨r1, _, r3⟩ := rowY_ok h y
  exact wd_ok q (M := 4096) r1 r3 k0 (by omega)
theorem wd_far (q : Bool) {R : Rg} (h : valG R) {k : Int} (k0 : 0 ≤ k) (k1 : k ≤ 64) (y : Int) {x : Int} (hx : memB (wdR q (rowY R y) k) x = true) : -5000 ≤ x ∧ x < 5000 := by
  have hw := ((wd_row q h k0 k1 y).2 x).1 hx
  obtain ⟨_, r2, _⟩ := rowY_ok h y
  cases q
  · have g := hw 0 (by omega) k0
    rw [r2] at g
    have := mem_in h g
    omega
  · obtain ⟨s, s1, s2, g⟩ := hw
    rw [r2] at g
    have := mem_in h g
    omega
theorem sq_rws (q : Bool) {R : Rg} (h : valG R) {k : Int} (k0 : 0 ≤ k) (k1 : k ≤ 64) {F : Int} {N : Nat} (hN : N ≤ 20000) : Rws (tab N fun i => wdR q (rowY R (F + (i : Int))) k) := by
  refine ⟨by rw [tab_length]; exact hN, fun i => ?_⟩
  rw [tab_rows]
  by_cases hi : i < N
  · rw [if_pos hi]
    exact ⟨(wd_row q h k0 k1 _).1, fun x hx => wd_far q h k0 k1 _ hx⟩
  · rw [if_neg hi]
    exact ⟨valR_nil, fun x hx => by cases hx⟩
theorem sq_main (q : Bool) {R : Rg} (h : valG R) (hp : 0 < R.length) {k : Nat} (k1 : k ≤ 64) (hf : q = true → fitsG R (k : Int)) {F rk : Int} {N : Nat} (hr : rk = bif q then 2 * (k : Int) else 0) (hF : F = loY R - rk) (hN : (N : Int) = hiY R + rk - F + 1) :
    (wnV q (tab N fun i => wdR q (rowY R (F + (i : Int))) (k : Int)) ((2 * k + 1 : Nat) : Int)).length ≤ 50000 ∧ rgN (fun i => (wnV q (tab N fun i => wdR q (rowY R (F + (i : Int))) (k : Int)) ((2 * k + 1 : Nat) : Int)).getD i []) (F + (k : Int)) (wnV q (tab N fun i => wdR q (rowY R (F + (i : Int))) (k : Int)) ((2 * k + 1 : Nat) : Int)).length = nfG (Sq q R (k : Int)) ∧ ∃ X : Rg, valG X ∧ ∀ x y, memG X x y = true ↔ Sq q R (k : Int) x y := by
  obtain ⟨b1, _, _, ⟨x1, b4⟩, ⟨x2, b5⟩⟩ := box_ok h hp
  have m4 := mem_in h b4
  have m5 := mem_in h b5
  have rk0 : 0 ≤ rk ∧ rk ≤ 128 := by cases q <;> simp only [cond_true, cond_false] at hr <;> omega
  have hW := sq_rws q h (k := (k : Int)) (by omega) (by omega) (F := F) (N := N) (by omega)
  have w := wnV_ok q hW (n := 2 * k + 1) (by omega)
  rw [tab_length] at w
  have hl := w.len
  have fi : ∀ i, i < N → ∀ x, memB ((tab N fun i => wdR q (rowY R (F + (i : Int))) (k : Int)).getD i []) x = true ↔ Wd q (rowY R (F + (i : Int))) (k : Int) x := fun i hi x => by
    rw [tab_rows, if_pos hi]
    exact (wd_row q h (by omega) (by omega) _).2 x
  generalize wnV q (tab N fun i => wdR q (rowY R (F + (i : Int))) (k : Int)) ((2 * k + 1 : Nat) : Int) = l at *
  generalize (tab N fun i => wdR q (rowY R (F + (i : Int))) (k : Int)) = W at *
  have key : ∀ i, i < l.length → ∀ x, memB (l.getD i []) x = true → Sq q R (k : Int) x (F + (k : Int) + (i : Int)) := fun i hi x hx => by
    have p := (w.mem i hi x).1 hx
    cases q
    · intro dx dy d1 d2 d3 d4
      have p := p (dy + (k : Int)).toNat (by omega)
      have e := (fi (i + (dy + (k : Int)).toNat) (by omega) x).1 p dx d1 d2
      rw [(rowY_ok h _).2.1] at e
      rwa [show F + (k : Int) + (i : Int) + dy = F + ((i + (dy + (k : Int)).toNat : Nat) : Int) by omega]
    · obtain ⟨j, hj, p⟩ := p
      obtain ⟨s, s1, s2, e⟩ := (fi (i + j) (by omega) x).1 p
      rw [(rowY_ok h _).2.1] at e
      exact ⟨s, (j : Int) - (k : Int), s1, s2, by omega, by omega, by rwa [show F + (k : Int) + (i : Int) + ((j : Int) - (k : Int)) = F + ((i + j : Nat) : Int) by omega]⟩
  have rng : ∀ i, i < l.length → ∀ x, memB (l.getD i []) x = true → -4096 ≤ x ∧ x < 4096 ∧ -4096 ≤ F + (k : Int) + (i : Int) ∧ F + (k : Int) + (i : Int) < 4096 := fun i hi x hx => by
    have p := key i hi x hx
    cases q
    · have e := p 0 0 (by omega) (by omega) (by omega) (by omega)
      have := mem_in h e
      omega
    · obtain ⟨dx, dy, d1, d2, d3, d4, e⟩ := p
      have := hf rfl _ _ e
      omega
  obtain ⟨g1, _, g3⟩ := rgN_ok (f := fun i => l.getD i []) (y := F + (k : Int)) (n := l.length) fun i hi => ⟨w.val i hi, fun x hx => by have := rng i hi x hx; omega, fun h0 => by
    obtain ⟨x, hx⟩ := some_mem (w.val i hi) h0
    have := rng i hi x hx; omega⟩
  have gm : ∀ x y, memG (rgN (fun i => l.getD i []) (F + (k : Int)) l.length) x y = true ↔ Sq q R (k : Int) x y := ?_
  exact ⟨by omega, (nfG_eq g1 gm).symm, _, g1, gm⟩
  intro x y
  rw [g3]
  constructor
  · rintro ⟨i, hi, rfl, hx⟩
    exact key i hi x hx
  · intro p
    cases q
    · simp only [cond_false] at hr
      have ea := p 0 (-(k : Int)) (by omega) (by omega) (by omega) (by omega)
      have eb := p 0 (k : Int) (by omega) (by omega) (by omega) (by omega)
      have ha := b1 _ _ ea
      have hb := b1 _ _ eb
      refine ⟨(y - F - (k : Int)).toNat, by omega, by omega, (w.mem _ (by omega) x).2 fun j hj => ?_⟩
      refine (fi ((y - F - (k : Int)).toNat + j) (by omega) x).2 fun s s1 s2 => ?_
      rw [(rowY_ok h _).2.1]
      have e := p s ((j : Int) - (k : Int)) s1 s2 (by omega) (by omega)
      rwa [show F + (((y - F - (k : Int)).toNat + j : Nat) : Int) = y + ((j : Int) - (k : Int)) by omega]
    · simp only [cond_true] at hr
      obtain ⟨dx, dy, d1, d2, d3, d4, e⟩ := p
      have ha := b1 _ _ e
      refine ⟨(y - F - (k : Int)).toNat, by omega, by omega, (w.mem _ (by omega) x).2 ⟨(dy + (k : Int)).toNat, by omega, ?_⟩⟩
      refine (fi ((y - F - (k : Int)).toNat + (dy + (k : Int)).toNat) (by omega) x).2 ⟨dx, d1, d2, ?_⟩
      rw [(rowY_ok h _).2.1]
      rwa [show F + (((y - F - (k : Int)).toNat + (dy + (k : Int)).toNat : Nat) : Int) = y + dy by omega]
theorem sq_none (q : Bool) {k : Int} (k0 : 0 ≤ k) : nfG (Sq q [] k) = [] := nfG_eq valG_nil fun x y => by
  rw [memG_nil]
  constructor
  · intro h; cases h
  · intro h
    cases q
    · have := h 0 0 (by omega) k0 (by omega) k0; cases this
    · obtain ⟨dx, dy, _, _, _, _, e⟩ := h; cases e
noncomputable def sqG (q : Bool) (R : Rg) (k : Int) : Rg := nfG (Sq q R k)
noncomputable def sqOk (q : Bool) (R : Rg) (k ro : Int) : Bool := @decide (valG R ∧ 0 ≤ k ∧ k ≤ 64 ∧ (q = true → fitsG R k) ∧ ro = (bif q then 2 else 0)) (Classical.propDecidable _)
theorem sqOk_iff {q : Bool} {R : Rg} {k ro : Int} : sqOk q R k ro = true ↔ valG R ∧ 0 ≤ k ∧ k ≤ 64 ∧ (q = true → fitsG R k) ∧ ro = (bif q then 2 else 0) := by unfold sqOk; simp
/-- A region has the members of its offset. -/
theorem sqG_mem (q : Bool) {R : Rg} {k : Int} (h : valG R) (k0 : 0 ≤ k) (k1 : k ≤ 64) (hf : q = true → fitsG R k) (x y : Int) : memG (sqG q R k) x y = true ↔ Sq q R k x y := by
  unfold sqG
  by_cases hp : 0 < R.length
  · obtain ⟨k, rfl⟩ : ∃ j : Nat, k = (j : Int) := ⟨k.toNat, by omega⟩
    obtain ⟨b1, _, _, ⟨x1, b4⟩, ⟨x2, b5⟩⟩ := box_ok h hp
    have rk0 : 0 ≤ (bif q then 2 * (k : Int) else 0) := by cases q <;> simp only [cond_true, cond_false] <;> omega
    have a4 := b1 _ _ b4
    have m4 := mem_in h b4
    have m5 := mem_in h b5
    have hN : (((hiY R + (bif q then 2 * (k : Int) else 0) - (loY R - (bif q then 2 * (k : Int) else 0)) + 1).toNat : Nat) : Int) = hiY R + (bif q then 2 * (k : Int) else 0) - (loY R - (bif q then 2 * (k : Int) else 0)) + 1 := by omega
    obtain ⟨_, _, ex⟩ := sq_main q h hp (by omega) hf rfl rfl hN
    exact nfG_mem ex x y
  · have e : R = [] := List.length_eq_zero_iff.1 (by omega)
    subst e
    exact nfG_mem ⟨[], valG_nil, fun x y => by
      rw [memG_nil]
      constructor
      · intro h; cases h
      · intro h
        cases q
        · have := h 0 0 (by omega) k0 (by omega) k0; cases this
        · obtain ⟨dx, dy, _, _, _, _, e⟩ := h; cases e⟩ x y
end Go.Proofs.Ytdoodmapmhibhaa

namespace Go.Proofs.Ytdoodmapmhibhaa
noncomputable def withinG (A B : Rg) : Bool := valGB A && (valGB B && decide (opR 0 A B = []))
theorem within_iff {A B : Rg} (ha : valG A) (hb : valG B) : withinG A B = true ↔ ∀ x y, memG A x y = true → memG B x y = true := by
  unfold withinG
  rw [valGB_t ha, valGB_t hb, Bool.true_and, Bool.true_and, decide_eq_true_eq, sub_iff ha hb]
theorem sq_val (q : Bool) (R : Rg) (k : Int) : valG (sqG q R k) := nfG_val _
theorem adj_sq {A B : Rg} {k : Int} (ha : valG A) (hb : valG B) (k0 : 0 ≤ k) (k1 : k ≤ 64) (hf : fitsG A k) : withinG (sqG true A k) B = withinG A (sqG false B k) := by
  rw [Bool.eq_iff_iff, within_iff (sq_val _ _ _) hb, within_iff ha (sq_val _ _ _)]
  constructor
  · intro h x y hm
    refine (sqG_mem false hb k0 k1 (fun e => by cases e) x y).2 fun dx dy d1 d2 d3 d4 => h _ _ ((sqG_mem true ha k0 k1 (fun _ => hf) _ _).2 ⟨-dx, -dy, by omega, by omega, by omega, by omega, ?_⟩)
    rwa [show x + dx + -dx = x by omega, show y + dy + -dy = y by omega]
  · intro h x y hm
    obtain ⟨dx, dy, d1, d2, d3, d4, e⟩ := (sqG_mem true ha k0 k1 (fun _ => hf) x y).1 hm
    have := (sqG_mem false hb k0 k1 (fun e => by cases e) _ _).1 (h _ _ e) (-dx) (-dy) (by omega) (by omega) (by omega) (by omega)
    rwa [show x + dx + -dx = x by omega, show y + dy + -dy = y by omega] at this
theorem fits_or {A B : Rg} {k : Int} (ha : valG A) (hb : valG B) (fa : fitsG A k) (fb : fitsG B k) : fitsG (opR 2 A B) k := fun x y h => by
  rw [opR_mem ha hb, opE_2, Bool.or_eq_true] at h
  rcases h with h | h
  · exact fa x y h
  · exact fb x y h
theorem sq_or {A B : Rg} {k : Int} (ha : valG A) (hb : valG B) (k0 : 0 ≤ k) (k1 : k ≤ 64) (fa : fitsG A k) (fb : fitsG B k) : sqG true (opR 2 A B) k = opR 2 (sqG true A k) (sqG true B k) :=
  val_ext (sq_val _ _ _) (opR_val _ _ _) fun x y => by
    rw [Bool.eq_iff_iff, sqG_mem true (opR_val _ _ _) k0 k1 (fun _ => fits_or ha hb fa fb), opR_mem (sq_val _ _ _) (sq_val _ _ _), opE_2, Bool.or_eq_true, sqG_mem true ha k0 k1 (fun _ => fa), sqG_mem true hb k0 k1 (fun _ => fb)]
    constructor
    · rintro ⟨dx, dy, d1, d2, d3, d4, e⟩
      rw [opR_mem ha hb, opE_2, Bool.or_eq_true] at e
      rcases e with e | e
      · exact .inl ⟨dx, dy, d1, d2, d3, d4, e⟩
      · exact .inr ⟨dx, dy, d1, d2, d3, d4, e⟩
    · rintro (⟨dx, dy, d1, d2, d3, d4, e⟩ | ⟨dx, dy, d1, d2, d3, d4, e⟩)
      · exact ⟨dx, dy, d1, d2, d3, d4, by rw [opR_mem ha hb, opE_2, e]; rfl⟩
      · exact ⟨dx, dy, d1, d2, d3, d4, by rw [opR_mem ha hb, opE_2, e, Bool.or_true]⟩
theorem sq_and {A B : Rg} {k : Int} (ha : valG A) (hb : valG B) (k0 : 0 ≤ k) (k1 : k ≤ 64) : sqG false (opR 1 A B) k = opR 1 (sqG false A k) (sqG false B k) :=
  val_ext (sq_val _ _ _) (opR_val _ _ _) fun x y => by
    rw [Bool.eq_iff_iff, sqG_mem false (opR_val _ _ _) k0 k1 (fun e => by cases e), opR_mem (sq_val _ _ _) (sq_val _ _ _), opE_1, Bool.and_eq_true, sqG_mem false ha k0 k1 (fun e => by cases e), sqG_mem false hb k0 k1 (fun e => by cases e)]
    constructor
    · intro h
      refine ⟨fun dx dy d1 d2 d3 d4 => ?_, fun dx dy d1 d2 d3 d4 => ?_⟩
      · have := h dx dy d1 d2 d3 d4
        rw [opR_mem ha hb, opE_1, Bool.and_eq_true] at this; exact this.1
      · have := h dx dy d1 d2 d3 d4
        rw [opR_mem ha hb, opE_1, Bool.and_eq_true] at this; exact this.2
    · rintro ⟨h1, h2⟩ dx dy d1 d2 d3 d4
      rw [opR_mem ha hb, opE_1, h1 dx dy d1 d2 d3 d4, h2 dx dy d1 d2 d3 d4]; rfl
theorem parts {d j k : Int} (j0 : 0 ≤ j) (k0 : 0 ≤ k) (h1 : -(j + k) ≤ d) (h2 : d ≤ j + k) : ∃ a b, d = a + b ∧ -k ≤ a ∧ a ≤ k ∧ -j ≤ b ∧ b ≤ j := by
  by_cases g1 : d < -k
  · exact ⟨-k, d + k, by omega, by omega, by omega, by omega, by omega⟩
  · by_cases g2 : k < d
    · exact ⟨k, d - k, by omega, by omega, by omega, by omega, by omega⟩
    · exact ⟨d, 0, by omega, by omega, by omega, by omega, by omega⟩
theorem er_two {R : Rg} {j k : Int} (h : valG R) (j0 : 0 ≤ j) (k0 : 0 ≤ k) (jk : j + k ≤ 64) : sqG false (sqG false R j) k = sqG false R (j + k) :=
  val_ext (sq_val _ _ _) (sq_val _ _ _) fun x y => by
    rw [Bool.eq_iff_iff, sqG_mem false (sq_val _ _ _) k0 (by omega) (fun e => by cases e), sqG_mem false h (by omega) jk (fun e => by cases e)]
    constructor
    · intro g dx dy d1 d2 d3 d4
      obtain ⟨a, b, rfl, a1, a2, a3, a4⟩ := parts j0 k0 d1 d2
      obtain ⟨c, e, rfl, c1, c2, c3, c4⟩ := parts j0 k0 d3 d4
      have := (sqG_mem false h j0 (by omega) (fun e => by cases e) _ _).1 (g a c a1 a2 c1 c2) b e a3 a4 c3 c4
      rwa [show x + (a + b) = x + a + b by omega, show y + (c + e) = y + c + e by omega]
    · intro g a c a1 a2 c1 c2
      refine (sqG_mem false h j0 (by omega) (fun e => by cases e) _ _).2 fun b e b1 b2 e1 e2 => ?_
      rw [show x + a + b = x + (a + b) by omega, show y + c + e = y + (c + e) by omega]
      exact g _ _ (by omega) (by omega) (by omega) (by omega)
theorem fits_two {R : Rg} {j k : Int} (h : valG R) (j0 : 0 ≤ j) (k0 : 0 ≤ k) (jk : j + k ≤ 64) (hf : fitsG R j) : fitsG (sqG true R j) k ↔ fitsG R (j + k) := by
  have m := sqG_mem true h j0 (by omega) (fun _ => hf)
  constructor
  · intro g x y hm
    have a1 := g _ _ ((m (x - j) y).2 ⟨j, 0, by omega, by omega, by omega, by omega, by rwa [show x - j + j = x by omega, Int.add_zero]⟩)
    have a2 := g _ _ ((m (x + j) y).2 ⟨-j, 0, by omega, by omega, by omega, by omega, by rwa [show x + j + -j = x by omega, Int.add_zero]⟩)
    have a3 := g _ _ ((m x (y - j)).2 ⟨0, j, by omega, by omega, by omega, by omega, by rwa [show y - j + j = y by omega, Int.add_zero]⟩)
    have a4 := g _ _ ((m x (y + j)).2 ⟨0, -j, by omega, by omega, by omega, by omega, by rwa [show y + j + -j = y by omega, Int.add_zero]⟩)
    omega
  · intro g x y hm
    obtain ⟨dx, dy, d1, d2, d3, d4, e⟩ := (m x y).1 hm
    have := g _ _ e
    omega
theorem dl_two {R : Rg} {j k : Int} (h : valG R) (j0 : 0 ≤ j) (k0 : 0 ≤ k) (jk : j + k ≤ 64) (hf : fitsG R j) (hg : fitsG R (j + k)) : sqG true (sqG true R j) k = sqG true R (j + k) :=
  val_ext (sq_val _ _ _) (sq_val _ _ _) fun x y => by
    rw [Bool.eq_iff_iff, sqG_mem true (sq_val _ _ _) k0 (by omega) (fun _ => (fits_two h j0 k0 jk hf).2 hg), sqG_mem true h (by omega) jk (fun _ => hg)]
    constructor
    · rintro ⟨a, c, a1, a2, c1, c2, e⟩
      obtain ⟨b, d, b1, b2, d1, d2, e⟩ := (sqG_mem true h j0 (by omega) (fun _ => hf) _ _).1 e
      exact ⟨a + b, c + d, by omega, by omega, by omega, by omega, by rwa [show x + (a + b) = x + a + b by omega, show y + (c + d) = y + c + d by omega]⟩
    · rintro ⟨dx, dy, d1, d2, d3, d4, e⟩
      obtain ⟨a, b, rfl, a1, a2, a3, a4⟩ := parts j0 k0 d1 d2
      obtain ⟨c, f, rfl, c1, c2, c3, c4⟩ := parts j0 k0 d3 d4
      exact ⟨a, c, a1, a2, c1, c2, (sqG_mem true h j0 (by omega) (fun _ => hf) _ _).2 ⟨b, f, a3, a4, c3, c4, by rwa [show x + a + b = x + (a + b) by omega, show y + c + f = y + (c + f) by omega]⟩⟩
/-! Opening and closing. -/
end Go.Proofs.Ytdoodmapmhibhaa

namespace Go.Proofs.Ytdoodmapmhibhaa
def dia (t dx dy : Int) : Prop := dx + dy ≤ t ∧ dx - dy ≤ t ∧ dy - dx ≤ t ∧ -dx - dy ≤ t
def Dm (q : Bool) (R : Rg) (t x y : Int) : Prop := match q with
  | true => ∃ dx dy, dia t dx dy ∧ memG R (x + dx) (y + dy) = true
  | false => ∀ dx dy, dia t dx dy → memG R (x + dx) (y + dy) = true
theorem dia_zero {dx dy : Int} (h : dia 0 dx dy) : dx = 0 ∧ dy = 0 := by unfold dia at h; omega
theorem dm_zero (q : Bool) (R : Rg) (x y : Int) : Dm q R 0 x y ↔ memG R x y = true := by
  cases q
  · constructor
    · intro h
      have := h 0 0 (by unfold dia; omega)
      rwa [Int.add_zero, Int.add_zero] at this
    · intro h dx dy hd
      obtain ⟨rfl, rfl⟩ := dia_zero hd
      rwa [Int.add_zero, Int.add_zero]
  · constructor
    · rintro ⟨dx, dy, hd, h⟩
      obtain ⟨rfl, rfl⟩ := dia_zero hd
      rwa [Int.add_zero, Int.add_zero] at h
    · intro h
      exact ⟨0, 0, by unfold dia; omega, by rwa [Int.add_zero, Int.add_zero]⟩
/-- A diamond is the diamonds with a reach less around its neighbors and itself. -/
theorem dm_stepT (R : Rg) {t : Int} (t0 : 0 ≤ t) (x y : Int) : Dm true R (t + 1) x y ↔ (Dm true R t x (y - 1) ∨ Dm true R t x (y + 1)) ∨ ∃ s, -1 ≤ s ∧ s ≤ 1 ∧ Dm true R t (x + s) y := by
  constructor
  · rintro ⟨dx, dy, hd, h⟩
    unfold dia at hd
    rcases Int.lt_trichotomy dy 0 with g | g | g
    · exact .inl (.inl ⟨dx, dy + 1, by unfold dia; omega, by rwa [show y - 1 + (dy + 1) = y + dy by omega]⟩)
    · rcases Int.lt_trichotomy dx 0 with k | k | k
      · exact .inr ⟨-1, by omega, by omega, dx + 1, dy, by unfold dia; omega, by rwa [show x + -1 + (dx + 1) = x + dx by omega]⟩
      · exact .inr ⟨0, by omega, by omega, dx, dy, by unfold dia; omega, by rwa [Int.add_zero]⟩
      · exact .inr ⟨1, by omega, by omega, dx - 1, dy, by unfold dia; omega, by rwa [show x + 1 + (dx - 1) = x + dx by omega]⟩
    · exact .inl (.inr ⟨dx, dy - 1, by unfold dia; omega, by rwa [show y + 1 + (dy - 1) = y + dy by omega]⟩)
  · rintro ((⟨dx, dy, hd, h⟩ | ⟨dx, dy, hd, h⟩) | ⟨s, s1, s2, dx, dy, hd, h⟩)
    · exact ⟨dx, dy - 1, by unfold dia at hd ⊢; omega, by rwa [show y + (dy - 1) = y - 1 + dy by omega]⟩
    · exact ⟨dx, dy + 1, by unfold dia at hd ⊢; omega, by rwa [show y + (dy + 1) = y + 1 + dy by omega]⟩
    · exact ⟨s + dx, dy, by unfold dia at hd ⊢; omega, by rwa [show x + (s + dx) = x + s + dx by omega]⟩
theorem dm_stepF (R : Rg) {t : Int} (t0 : 0 ≤ t) (x y : Int) : Dm false R (t + 1) x y ↔ (Dm false R t x (y - 1) ∧ Dm false R t x (y + 1)) ∧ ∀ s, -1 ≤ s → s ≤ 1 → Dm false R t (x + s) y := by
  constructor
  · intro h
    refine ⟨⟨fun dx dy hd => ?_, fun dx dy hd => ?_⟩, fun s s1 s2 dx dy hd => ?_⟩
    · rw [show y - 1 + dy = y + (dy - 1) by omega]; exact h dx (dy - 1) (by unfold dia at hd ⊢; omega)
    · rw [show y + 1 + dy = y + (dy + 1) by omega]; exact h dx (dy + 1) (by unfold dia at hd ⊢; omega)
    · rw [show x + s + dx = x + (s + dx) by omega]; exact h (s + dx) dy (by unfold dia at hd ⊢; omega)
  · rintro ⟨⟨h1, h2⟩, h3⟩ dx dy hd
    unfold dia at hd
    rcases Int.lt_trichotomy dy 0 with g | g | g
    · have := h1 dx (dy + 1) (by unfold dia; omega)
      rwa [show y - 1 + (dy + 1) = y + dy by omega] at this
    · rcases Int.lt_trichotomy dx 0 with k | k | k
      · have := h3 (-1) (by omega) (by omega) (dx + 1) dy (by unfold dia; omega)
        rwa [show x + -1 + (dx + 1) = x + dx by omega] at this
      · have := h3 0 (by omega) (by omega) dx dy (by unfold dia; omega)
        rwa [Int.add_zero] at this
      · have := h3 1 (by omega) (by omega) (dx - 1) dy (by unfold dia; omega)
        rwa [show x + 1 + (dx - 1) = x + dx by omega] at this
    · have := h2 dx (dy - 1) (by unfold dia; omega)
      rwa [show y + 1 + (dy - 1) = y + dy by omega] at this
/-- Rows behind t steps. -/
structure Cn (q : Bool) (R : Rg) (F : Int) (N t : Nat) (l : List Rl) : Prop where
  len : l.length = N - 2 * t
  val : ∀ i, i < l.length → valR (l.getD i []) ∧ ∀ x, memB (l.getD i []) x = true → -5000 ≤ x ∧ x < 5000
  mem : ∀ i, i < l.length → ∀ x, memB (l.getD i []) x = true ↔ Dm q R (t : Int) x (F + (t : Int) + (i : Int))
theorem cn_zero (q : Bool) {R : Rg} (h : valG R) (F : Int) (N : Nat) : Cn q R F N 0 (tab N fun i => rowY R (F + (i : Int))) := by
  refine ⟨by rw [tab_length]; omega, fun i hi => ?_, fun i hi x => ?_⟩
  · rw [tab_length] at hi
    rw [tab_rows, if_pos hi]
    obtain ⟨r1, _, r3⟩ := rowY_ok h (F + (i : Int))
    exact ⟨r1, fun x hx => by have := in_bd (M := 4096) r3 hx; omega⟩
  · rw [tab_length] at hi
    rw [tab_rows, if_pos hi, (rowY_ok h (F + (i : Int))).2.1, show ((0 : Nat) : Int) = 0 from rfl, dm_zero, Int.add_zero]
theorem dm_far (q : Bool) {R : Rg} (h : valG R) {t x y : Int} (t0 : 0 ≤ t) (t1 : t ≤ 65) (hd : Dm q R t x y) : -5000 ≤ x ∧ x < 5000 := by
  cases q
  · have g := hd 0 0 (by unfold dia; omega)
    have := mem_in h g
    omega
  · obtain ⟨dx, dy, hd, g⟩ := hd
    have := mem_in h g
    unfold dia at hd
    omega
theorem cn_step {q : Bool} {R : Rg} {F : Int} {N t : Nat} {l : List Rl} (h : valG R) (ht : t < 65) (c : Cn q R F N t l) :
    Cn q R F N (t + 1) (tab (l.length - 2) fun i => chL (chL (l.getD i []) (l.getD (i + 2) []) (anq q)) (wdR q (l.getD (i + 1) []) 1) (anq q)) := by
  have hl := c.len
  have key : ∀ i, i < l.length - 2 → valR (chL (chL (l.getD i []) (l.getD (i + 2) []) (anq q)) (wdR q (l.getD (i + 1) []) 1) (anq q)) ∧ ∀ x, memB (chL (chL (l.getD i []) (l.getD (i + 2) []) (anq q)) (wdR q (l.getD (i + 1) []) 1) (anq q)) x = true ↔ Dm q R ((t : Int) + 1) x (F + (t : Int) + 1 + (i : Int)) := fun i hi => by
    obtain ⟨v0, b0⟩ := c.val i (by omega)
    obtain ⟨v1, b1⟩ := c.val (i + 1) (by omega)
    obtain ⟨v2, b2⟩ := c.val (i + 2) (by omega)
    have m0 := c.mem i (by omega)
    have m1 := c.mem (i + 1) (by omega)
    have m2 := c.mem (i + 2) (by omega)
    obtain ⟨j1, j2⟩ := ch_ok v0 v2 (anq q)
    obtain ⟨w1, w2⟩ := wd_ok q (k := 1) (M := 5000) v1 (bd_in v1 b1) (by omega) (by omega)
    obtain ⟨k1, k2⟩ := ch_ok j1 w1 (anq q)
    refine ⟨k1, fun x => ?_⟩
    rw [k2, j2]
    have e0 : F + (t : Int) + (i : Int) = F + (t : Int) + 1 + (i : Int) - 1 := by omega
    have e1 : F + (t : Int) + ((i + 1 : Nat) : Int) = F + (t : Int) + 1 + (i : Int) := by omega
    have e2 : F + (t : Int) + ((i + 2 : Nat) : Int) = F + (t : Int) + 1 + (i : Int) + 1 := by omega
    rw [e0] at m0
    rw [e1] at m1
    rw [e2] at m2
    cases q
    · show (memB (l.getD i []) x && memB (l.getD (i + 2) []) x && memB (wdR false (l.getD (i + 1) []) 1) x) = true ↔ _
      rw [Bool.and_eq_true, Bool.and_eq_true, m0, m2, w2, dm_stepF R (by omega)]
      refine and_congr Iff.rfl ⟨fun g s s1 s2 => (m1 _).1 (g s s1 s2), fun g s s1 s2 => (m1 _).2 (g s s1 s2)⟩
    · show (memB (l.getD i []) x || memB (l.getD (i + 2) []) x || memB (wdR true (l.getD (i + 1) []) 1) x) = true ↔ _
      rw [Bool.or_eq_true, Bool.or_eq_true, m0, m2, w2, dm_stepT R (by omega)]
      refine or_congr Iff.rfl ⟨fun ⟨s, s1, s2, g⟩ => ⟨s, s1, s2, (m1 _).1 g⟩, fun ⟨s, s1, s2, g⟩ => ⟨s, s1, s2, (m1 _).2 g⟩⟩
  have e : ∀ i, i < l.length - 2 → (tab (l.length - 2) fun i => chL (chL (l.getD i []) (l.getD (i + 2) []) (anq q)) (wdR q (l.getD (i + 1) []) 1) (anq q)).getD i [] = chL (chL (l.getD i []) (l.getD (i + 2) []) (anq q)) (wdR q (l.getD (i + 1) []) 1) (anq q) := fun i hi => tab_getD _ hi
  refine ⟨by rw [tab_length]; omega, fun i hi => ?_, fun i hi x => ?_⟩
  · rw [tab_length] at hi
    rw [e i hi]
    exact ⟨(key i hi).1, fun x hx => dm_far q h (t := (t : Int) + 1) (by omega) (by omega) (((key i hi).2 x).1 hx)⟩
  · rw [tab_length] at hi
    rw [e i hi, (key i hi).2]
    rw [show ((t + 1 : Nat) : Int) = (t : Int) + 1 by omega, show F + ((t : Int) + 1) + (i : Int) = F + (t : Int) + 1 + (i : Int) by omega]
theorem dm_main (q : Bool) {R : Rg} (h : valG R) (hp : 0 < R.length) {k : Nat} (k1 : k ≤ 64) (hf : q = true → fitsG R (k : Int)) {F rk : Int} {N : Nat} (hr : rk = bif q then 2 * (k : Int) else 0) (hF : F = loY R - rk) (hN : (N : Int) = hiY R + rk - F + 1) {l : List Rl} (c : Cn q R F N k l) :
    l.length ≤ 50000 ∧ rgN (fun i => l.getD i []) (F + (k : Int)) l.length = nfG (Dm q R (k : Int)) ∧ ∃ X : Rg, valG X ∧ ∀ x y, memG X x y = true ↔ Dm q R (k : Int) x y := by
  obtain ⟨b1, _, _, ⟨x1, b4⟩, ⟨x2, b5⟩⟩ := box_ok h hp
  have m4 := mem_in h b4
  have m5 := mem_in h b5
  have rk0 : 0 ≤ rk ∧ rk ≤ 128 := by cases q <;> simp only [cond_true, cond_false] at hr <;> omega
  have hl := c.len
  have rng : ∀ i, i < l.length → ∀ x, memB (l.getD i []) x = true → -4096 ≤ x ∧ x < 4096 ∧ -4096 ≤ F + (k : Int) + (i : Int) ∧ F + (k : Int) + (i : Int) < 4096 := fun i hi x hx => by
    have p := (c.mem i hi x).1 hx
    cases q
    · have e := p 0 0 (by unfold dia; omega)
      have := mem_in h e
      omega
    · obtain ⟨dx, dy, hd, e⟩ := p
      have := hf rfl _ _ e
      unfold dia at hd
      omega
  obtain ⟨g1, _, g3⟩ := rgN_ok (f := fun i => l.getD i []) (y := F + (k : Int)) (n := l.length) fun i hi => ⟨(c.val i hi).1, fun x hx => by have := rng i hi x hx; omega, fun h0 => by
    obtain ⟨x, hx⟩ := some_mem (c.val i hi).1 h0
    have := rng i hi x hx; omega⟩
  have gm : ∀ x y, memG (rgN (fun i => l.getD i []) (F + (k : Int)) l.length) x y = true ↔ Dm q R (k : Int) x y := fun x y => by
    rw [g3]
    constructor
    · rintro ⟨i, hi, rfl, hx⟩
      exact (c.mem i hi x).1 hx
    · intro p
      have hy : 0 ≤ y - F - (k : Int) ∧ y - F - (k : Int) < (l.length : Int) := by
        cases q
        · simp only [cond_false] at hr
          have ea := p 0 (-(k : Int)) (by unfold dia; omega)
          have eb := p 0 (k : Int) (by unfold dia; omega)
          have ha := b1 _ _ ea
          have hb := b1 _ _ eb
          omega
        · simp only [cond_true] at hr
          obtain ⟨dx, dy, hd, e⟩ := p
          have ha := b1 _ _ e
          unfold dia at hd
          omega
      refine ⟨(y - F - (k : Int)).toNat, by omega, by omega, (c.mem _ (by omega) x).2 ?_⟩
      rwa [show F + (k : Int) + (((y - F - (k : Int)).toNat : Nat) : Int) = y by omega]
  exact ⟨by omega, (nfG_eq g1 gm).symm, _, g1, gm⟩
theorem cn_exists (q : Bool) {R : Rg} (h : valG R) (F : Int) (N : Nat) : ∀ t, t ≤ 65 → ∃ l, Cn q R F N t l
  | 0, _ => ⟨_, cn_zero q h F N⟩
  | t + 1, ht => by
    obtain ⟨l, c⟩ := cn_exists q h F N t (by omega)
    exact ⟨_, cn_step h (by omega) c⟩
theorem dm_none (q : Bool) {k : Int} (k0 : 0 ≤ k) : nfG (Dm q [] k) = [] := nfG_eq valG_nil fun x y => by
  rw [memG_nil]
  constructor
  · intro h; cases h
  · intro h
    cases q
    · have := h 0 0 (by unfold dia; omega); cases this
    · obtain ⟨dx, dy, _, e⟩ := h; cases e
noncomputable def dmG (q : Bool) (R : Rg) (k : Int) : Rg := nfG (Dm q R k)
theorem dm_val (q : Bool) (R : Rg) (k : Int) : valG (dmG q R k) := nfG_val _
theorem dmG_mem (q : Bool) {R : Rg} {k : Int} (h : valG R) (k0 : 0 ≤ k) (k1 : k ≤ 64) (hf : q = true → fitsG R k) (x y : Int) : memG (dmG q R k) x y = true ↔ Dm q R k x y := by
  unfold dmG
  by_cases hp : 0 < R.length
  · obtain ⟨k, rfl⟩ : ∃ j : Nat, k = (j : Int) := ⟨k.toNat, by omega⟩
    obtain ⟨b1, _, _, ⟨x1, b4⟩, ⟨x2, b5⟩⟩ := box_ok h hp
    have rk0 : 0 ≤ (bif q then 2 * (k : Int) else 0) := by cases q <;> simp only [cond_true, cond_false] <;> omega
    have a4 := b1 _ _ b4
    have hN : (((hiY R + (bif q then 2 * (k : Int) else 0) - (loY R - (bif q then 2 * (k : Int) else 0)) + 1).toNat : Nat) : Int) = hiY R + (bif q then 2 * (k : Int) else 0) - (loY R - (bif q then 2 * (k : Int) else 0)) + 1 := by omega
    obtain ⟨l, c⟩ := cn_exists q h (loY R - (bif q then 2 * (k : Int) else 0)) (hiY R + (bif q then 2 * (k : Int) else 0) - (loY R - (bif q then 2 * (k : Int) else 0)) + 1).toNat k (by omega)
    obtain ⟨_, _, ex⟩ := dm_main q h hp (by omega) hf rfl rfl hN c
    exact nfG_mem ex x y
  · have e : R = [] := List.length_eq_zero_iff.1 (by omega)
    subst e
    exact nfG_mem ⟨[], valG_nil, fun x y => by
      rw [memG_nil]
      constructor
      · intro h; cases h
      · intro h
        cases q
        · have := h 0 0 (by unfold dia; omega); cases this
        · obtain ⟨dx, dy, _, e⟩ := h; cases e⟩ x y
theorem adj_dm {A B : Rg} {k : Int} (ha : valG A) (hb : valG B) (k0 : 0 ≤ k) (k1 : k ≤ 64) (hf : fitsG A k) : (∀ x y, memG (dmG true A k) x y = true → memG B x y = true) ↔ ∀ x y, memG A x y = true → memG (dmG false B k) x y = true := by
  constructor
  · intro h x y hm
    refine (dmG_mem false hb k0 k1 (fun e => by cases e) x y).2 fun dx dy hd => h _ _ ((dmG_mem true ha k0 k1 (fun _ => hf) _ _).2 ⟨-dx, -dy, by unfold dia at hd ⊢; omega, ?_⟩)
    rwa [show x + dx + -dx = x by omega, show y + dy + -dy = y by omega]
  · intro h x y hm
    obtain ⟨dx, dy, hd, e⟩ := (dmG_mem true ha k0 k1 (fun _ => hf) x y).1 hm
    have := (dmG_mem false hb k0 k1 (fun e => by cases e) _ _).1 (h _ _ e) (-dx) (-dy) (by unfold dia at hd ⊢; omega)
    rwa [show x + dx + -dx = x by omega, show y + dy + -dy = y by omega] at this
/-- Diamonds lie within squares, squares within diamonds of twice the reach. -/
theorem dm_sq {R : Rg} {k : Int} (h : valG R) (k0 : 0 ≤ k) (k1 : k ≤ 64) (hf : fitsG R k) (x y : Int) (hm : memG (dmG true R k) x y = true) : memG (sqG true R k) x y = true := by
  obtain ⟨dx, dy, hd, e⟩ := (dmG_mem true h k0 k1 (fun _ => hf) x y).1 hm
  unfold dia at hd
  exact (sqG_mem true h k0 k1 (fun _ => hf) x y).2 ⟨dx, dy, by omega, by omega, by omega, by omega, e⟩
theorem sq_dm {R : Rg} {k : Int} (h : valG R) (k0 : 0 ≤ k) (k1 : 2 * k ≤ 64) (hf : fitsG R (2 * k)) (x y : Int) (hm : memG (sqG true R k) x y = true) : memG (dmG true R (2 * k)) x y = true := by
  obtain ⟨dx, dy, d1, d2, d3, d4, e⟩ := (sqG_mem true h k0 (by omega) (fun _ x y hm => by have := hf x y hm; omega) x y).1 hm
  exact (dmG_mem true h (by omega) k1 (fun _ => hf) x y).2 ⟨dx, dy, by unfold dia; omega, e⟩
theorem sq_dmE {R : Rg} {k : Int} (h : valG R) (k0 : 0 ≤ k) (k1 : k ≤ 64) (x y : Int) (hm : memG (sqG false R k) x y = true) : memG (dmG false R k) x y = true :=
  (dmG_mem false h k0 k1 (fun e => by cases e) x y).2 fun dx dy hd => (sqG_mem false h k0 k1 (fun e => by cases e) x y).1 hm dx dy (by unfold dia at hd; omega) (by unfold dia at hd; omega) (by unfold dia at hd; omega) (by unfold dia at hd; omega)
theorem dm_sqE {R : Rg} {k : Int} (h : valG R) (k0 : 0 ≤ k) (k1 : 2 * k ≤ 64) (x y : Int) (hm : memG (dmG false R (2 * k)) x y = true) : memG (sqG false R k) x y = true :=
  (sqG_mem false h k0 (by omega) (fun e => by cases e) x y).2 fun dx dy d1 d2 d3 d4 => (dmG_mem false h (by omega) k1 (fun e => by cases e) x y).1 hm dx dy (by unfold dia; omega)
end Go.Proofs.Ytdoodmapmhibhaa
