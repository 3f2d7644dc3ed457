/-
  The evaluator is right: what becomes of its memory. No program is named here.
-/
import Derived.Test.YtacgchandefjgaaFvD
namespace Go.Proofs.Ytacgchandefjgaa
open Go
def rho (ρ : Nat → Option Nat) (k : Nat) (b : Option Nat) (j : Nat) : Option Nat := if j = k then b else ρ j
section
variable {w0 : World} {fr0 : Nat → Prop} {ρ : Nat → Option Nat} {fr : Nat → Prop} {own : Own} {w w' : World} {tm : List AV} {a : Act}
theorem ofV_is (kn : Bool) (v : Value) : (CV.ofV kn v).is own ρ fr w v := by
  unfold CV.ofV
  split
  · rename_i f first caps
    split
    · rename_i h1 h2
      have e1 : first = #[] := by simpa using h1
      have e2 : caps = #[] := by simpa using h2
      subst e1; subst e2
      exact ⟨[], rfl, rfl⟩
    · rfl
  · rfl
theorem ofVs_is (kn : Bool) : ∀ (l : List Value), csIs own ρ fr w (l.map (CV.ofV kn)) l
  | [] => rfl
  | v :: r => ⟨v, r, rfl, ofV_is kn v, ofVs_is kn r⟩
theorem ofVal_is (kn : Bool) (v : Value) : (AV.ofVal kn v).is own ρ fr w v := by
  unfold AV.ofVal
  split
  · rename_i cs
    exact ⟨cs.toList, rfl, ofVs_is kn _⟩
  · rename_i vs
    refine ⟨vs.toList, rfl, ?_⟩
    induction vs.toList with
    | nil => rfl
    | cons v r ih =>
      refine ⟨v, r, rfl, ?_, ih⟩
      dsimp only
      split
      · rename_i cs; exact ⟨cs.toList, ofVs_is kn _, rfl⟩
      · exact ⟨[v], ⟨v, [], rfl, ofV_is kn v, rfl⟩, rfl⟩
  · exact ofV_is kn v
theorem ofV_keys (kn : Bool) (v : Value) : (CV.ofV kn v).keys = [] := by
  unfold CV.ofV
  split
  · split <;> rfl
  · rfl
theorem ofVs_keys (kn : Bool) (l : List Value) : (l.map (CV.ofV kn)).flatMap CV.keys = [] := by
  simp [List.flatMap_eq_nil_iff, ofV_keys]
theorem ofVal_keys (kn : Bool) (v : Value) : (AV.ofVal kn v).keys = [] := by
  unfold AV.ofVal AV.keys
  split
  · exact ofVs_keys kn _
  · rename_i vs
    simp only [AV.cvs]
    induction vs.toList with
    | nil => rfl
    | cons v r ih =>
      simp only [List.map_cons, List.flatMap_cons, List.flatMap_append] at ih ⊢
      rw [ih, List.append_nil]
      split
      · exact ofVs_keys kn _
      · simp [ofV_keys]
  · simp [AV.cvs, ofV_keys]
theorem Rep.eval (r : Rep w0 fr0 ρ fr tm own a w) (x : Operand) : (opd tm x).is own ρ fr w (a.eval x) := by
  cases x with
  | tmp t =>
    simp only [opd, Act.eval, List.getD_eq_getElem?_getD, Array.getD_eq_getD_getElem?]
    cases h : tm[t]? with
    | some y =>
      obtain ⟨u, hu, hy⟩ := r.tmp t y h
      simpa [hu] using hy
    | none =>
      have : a.tmps[t]? = none := by
        rw [List.getElem?_eq_none_iff] at h
        rw [Array.getElem?_eq_none_iff, r.len]; exact h
      simp [this, AV.is, CV.is]
  | const v => exact ofVal_is true v
  | global g => simp [opd, Act.eval, AV.is, CV.is]
  | func f => exact ⟨[], rfl, rfl⟩
theorem okKeys_nil {l : List Nat} (h : l = []) : okKeys own l := by subst h; intro k hk; cases hk
theorem opd_ok (h : ∀ x ∈ tm, okKeys own x.keys) (x : Operand) : okKeys own (opd tm x).keys := by
  cases x with
  | tmp t =>
    simp only [opd, List.getD_eq_getElem?_getD]
    cases ht : tm[t]? with
    | some y => exact h y (List.mem_of_getElem? ht)
    | none => exact okKeys_nil rfl
  | const v => exact okKeys_nil (ofVal_keys true v)
  | global g => exact okKeys_nil rfl
  | func f => exact okKeys_nil rfl
theorem Rep.put {tm : List AV} (r : Rep w0 fr0 ρ fr tm own a w) {x : AV} {u : Value} (hx : x.is own ρ fr w u) (hok : okKeys own x.keys) (dst : Option Tmp) : Rep w0 fr0 ρ fr (putL tm dst x) own (a.put dst u) w := by
  cases dst with
  | none => exact r
  | some d =>
    refine { r with len := ?_, tmp := ?_, okT := ?_ }
    · simp [Act.put, putL, r.len]
    · intro t y hy
      simp only [putL] at hy
      simp only [Act.put]
      rw [List.getElem?_set] at hy
      rw [Array.getElem?_setIfInBounds]
      by_cases hd : d = t
      · subst hd
        by_cases hl : d < tm.length
        · simp [hl] at hy; subst hy
          exact ⟨u, by simp [r.len, hl], hx⟩
        · simp [hl] at hy
      · rw [if_neg hd] at hy ⊢
        exact r.tmp t y hy
    · intro y hy
      simp only [putL] at hy
      rcases List.mem_or_eq_of_mem_set hy with h | h
      · exact r.okT y h
      · subst h; exact hok
/-- The temporaries still say what is so when memory has grown. -/
theorem Rep.grown {own' : Own} {ρ' : Nat → Option Nat} {fr' : Nat → Prop} (r : Rep w0 fr0 ρ fr tm own a w) (m : RepM w0 fr0 ρ' fr' own' w') (g : Grow own ρ fr w own' ρ' fr' w') : Rep w0 fr0 ρ' fr' tm own' a w' where
  toRepM := m
  len := r.len
  tmp := fun t x ht => by
    obtain ⟨u, hu, hx⟩ := r.tmp t x ht
    exact ⟨u, hu, g.av (r.okT x (List.mem_of_getElem? ht)) hx⟩
  df := r.df
  okT := fun x hx k hk => g.has (r.okT x hx k hk)
/-- Another world: only blocks that nobody speaks of have changed. -/
theorem RepM.world (r : RepM w0 fr0 ρ fr own w) (B : Nat → Prop) (hx : Ext w0 w') (hs : w.heap.size ≤ w'.heap.size) (hh : ∀ b, b < w.heap.size → ¬ B b → w'.heap[b]? = w.heap[b]?) (hf : ∀ b, B b → ¬ fr b)
    (hl : ∀ k ob b, own.look k = some ob → ob.live → ρ k = some b → ¬ B b) (hb : ∀ b e n, Blk w b e n → Blk w' b e n) : RepM w0 fr0 ρ fr own w' ∧ Grow own ρ fr w own ρ fr w' := by
  have cell : ∀ b, b < w.heap.size → ¬ B b → ∀ o, w'.cell? ⟨b, o, none⟩ = w.cell? ⟨b, o, none⟩ := fun b h1 h2 o => by simp [World.cell?, hh b h1 h2]
  have g : Grow own ρ fr w own ρ fr w' := ⟨fun k ob h => ⟨rfl, ob, h, Keeps.rfl' ob⟩, fun _ h => h, fun b hb' o => cell b (r.frlt b hb') (fun h => hf b h hb') o, fun _ b e n _ _ h => hb b e n h⟩
  refine ⟨{ ext := hx, bas := r.bas, frlt := fun b h => Nat.lt_of_lt_of_le (r.frlt b h) hs, frnew := r.frnew, frold := r.frold, cells := ?_, rows := ?_, inj := r.inj, okC := r.okC }, g⟩
  · intro k cs hk
    obtain ⟨b, h1, h2, h3, h4, h5, h6⟩ := r.cells k cs hk
    have hn : ¬ B b := hl k _ b hk trivial h1
    refine ⟨b, h1, h2, Nat.lt_of_lt_of_le h3 hs, h4, fun o => by have := h5 o; simpa [World.frozen?, hh b h3 hn] using this, fun j x hj => ?_⟩
    obtain ⟨u, hu, hx⟩ := h6 j x hj
    exact ⟨u, by rw [cell b h3 hn]; exact hu, g.is (fun k' hk' => r.okC k cs hk k' (List.mem_flatMap.2 ⟨x, List.mem_of_getElem? hj, hk'⟩)) hx⟩
  · intro k mu kl kn e t l hk
    rcases r.rows k mu kl kn e t l hk with h | ⟨b, C, h1, h2, h3, h4, h5, h6, h7⟩
    · exact .inl h
    · have hn : ¬ B b := hl k _ b hk trivial h1
      refine .inr ⟨b, C, h1, h2, hb b e _ h3, h4, h5, fun i x hi => ?_, h7⟩
      obtain ⟨us, h8, h9⟩ := h6 i x hi
      exact ⟨us, h8.mono g.frz g.frc, fun j u hj => by rw [cell b h3.lt hn]; exact h9 j u hj⟩
theorem RepM.grow (r : RepM w0 fr0 ρ fr own w) (h : Ext w w') : RepM w0 fr0 ρ fr own w' ∧ Grow own ρ fr w own ρ fr w' :=
  r.world (fun _ => False) (r.ext.trans h) h.size (fun b hb _ => h.block b hb) (fun _ h => h.elim) (fun _ _ _ _ _ _ h => h) (fun _ _ _ hb => hb.ext h)
theorem grow_put {k : Nat} {ob : OB} {b : Option Nat} (hk : ∀ o, own.look k = some o → b = ρ k ∧ Keeps o ob) : Grow own ρ fr w (own.set k ob) (rho ρ k b) fr w where
  key := fun j o hj => by
    rw [Own.look_set]
    unfold rho
    by_cases e : j = k
    · subst e
      obtain ⟨e1, e2⟩ := hk o hj
      exact ⟨by simp [e1], ob, by simp, e2⟩
    · simp only [e, if_false]; exact ⟨trivial, o, hj, Keeps.rfl' o⟩
  frz := fun _ h => h
  frc := fun _ _ _ => rfl
  blk := fun _ _ _ _ _ _ h => h
/-- One block is spoken of in another way, in a world that has changed nothing else of what is spoken of. -/
theorem RepM.step (r : RepM w0 fr0 ρ fr own w) {k : Nat} {ob : OB} {b : Option Nat} (g : Grow own ρ fr w (own.set k ob) (rho ρ k b) fr w') (hx : Ext w0 w') (hs : w.heap.size ≤ w'.heap.size)
    (ho : ∀ j o c, j ≠ k → own.look j = some o → o.live → ρ j = some c → w'.heap[c]? = w.heap[c]?) (hB : ∀ c e n, Blk w c e n → Blk w' c e n)
    (hi : ob.live → ∀ k' o' c, k' ≠ k → own.look k' = some o' → o'.live → ρ k' = some c → b ≠ some c)
    (hc : ∀ cs, ob = .cells cs → okKeys (own.set k ob) (cs.flatMap CV.keys) ∧ ∃ c, b = some c ∧ w0.heap.size ≤ c ∧ c < w'.heap.size ∧ ¬ fr c ∧ (∀ o, w'.frozen? ⟨c, o, none⟩ = false) ∧
      ∀ (j : Nat) x, cs[j]? = some x → ∃ u, w'.cell? ⟨c, j, none⟩ = some u ∧ x.is (own.set k ob) (rho ρ k b) fr w' u)
    (hr : ∀ mu kl kn e t l, ob = .row mu kl kn e t l → (b = none ∧ l = []) ∨ ∃ c C, b = some c ∧ w0.heap.size ≤ c ∧ Blk w' c e (C * t.size) ∧ l.length ≤ C ∧ C ≤ maxLen ∧ RowAt w' fr t l c 0 ∧ (mu = true → ¬ fr c) ∧ (mu = false → fr c)) :
    RepM w0 fr0 (rho ρ k b) fr (own.set k ob) w' := by
  refine { ext := hx, bas := r.bas, frlt := fun b h => Nat.lt_of_lt_of_le (r.frlt b h) hs, frnew := r.frnew, frold := r.frold, cells := ?_, rows := ?_, inj := ?_, okC := ?_ }
  · intro j cs hj
    rw [Own.look_set] at hj
    by_cases e : j = k
    · subst e
      simp only [if_true, Option.some.injEq] at hj
      obtain ⟨_, c, h1, h2⟩ := hc cs hj
      exact ⟨c, by simpa [rho] using h1, h2⟩
    · simp only [e, if_false] at hj
      obtain ⟨c, h1, h2, h3, h4, h5, h6⟩ := r.cells j cs hj
      have hh := ho j _ c e hj trivial h1
      refine ⟨c, by simpa [rho, e] using h1, h2, Nat.lt_of_lt_of_le h3 hs, h4, fun o => by have := h5 o; simpa [World.frozen?, hh] using this, fun i x hi => ?_⟩
      obtain ⟨u, hu, hx⟩ := h6 i x hi
      exact ⟨u, by simpa [World.cell?, hh] using hu, g.is (fun k' hk' => r.okC j cs hj k' (List.mem_flatMap.2 ⟨x, List.mem_of_getElem? hi, hk'⟩)) hx⟩
  · intro j mu kl kn e t l hj
    rw [Own.look_set] at hj
    by_cases e' : j = k
    · subst e'
      simp only [if_true, Option.some.injEq] at hj
      rcases hr mu kl kn e t l hj with h | ⟨c, C, h1, h2⟩
      · exact .inl (by simpa [rho] using h)
      · exact .inr ⟨c, C, by simpa [rho] using h1, h2⟩
    · simp only [e', if_false] at hj
      simp only [rho, e', if_false]
      rcases r.rows j mu kl kn e t l hj with h | ⟨c, C, h1, h2, h3, h4, h5, h6, h7⟩
      · exact .inl h
      · have hh := ho j _ c e' hj trivial h1
        refine .inr ⟨c, C, h1, h2, hB _ _ _ h3, h4, h5, fun i x hi => ?_, h7⟩
        obtain ⟨us, h8, h9⟩ := h6 i x hi
        exact ⟨us, h8.mono g.frz g.frc, fun j u hj => by have := h9 j u hj; simpa [World.cell?, hh] using this⟩
  · intro j j' o o' c hj hj' hl hl' hb hb'
    rw [Own.look_set] at hj hj'
    unfold rho at hb hb'
    by_cases e : j = k <;> by_cases e' : j' = k
    · rw [e, e']
    · subst e
      simp only [if_true, Option.some.injEq] at hj hb
      simp only [e', if_false] at hj' hb'
      subst hj
      exact absurd hb (hi hl j' o' c e' hj' hl' hb')
    · subst e'
      simp only [if_true, Option.some.injEq] at hj' hb'
      simp only [e, if_false] at hj hb
      subst hj'
      exact absurd hb' (hi hl' j o c e hj hl hb)
    · simp only [e, e', if_false] at hj hj' hb hb'
      exact r.inj j j' o o' c hj hj' hl hl' hb hb'
  · intro j cs hj
    rw [Own.look_set] at hj
    by_cases e : j = k
    · subst e
      simp only [if_true, Option.some.injEq] at hj
      exact (hc cs hj).1
    · simp only [e, if_false] at hj
      exact fun k' hk' => g.has (r.okC j cs hj k' hk')
/-- One block is spoken of in another way; the world is as it was. -/
theorem RepM.put (r : RepM w0 fr0 ρ fr own w) {k : Nat} {ob : OB} {b : Option Nat} (hk : ∀ o, own.look k = some o → b = ρ k ∧ Keeps o ob)
    (hi : ob.live → ∀ k' o' c, k' ≠ k → own.look k' = some o' → o'.live → ρ k' = some c → b ≠ some c)
    (hc : ∀ cs, ob = .cells cs → okKeys (own.set k ob) (cs.flatMap CV.keys) ∧ ∃ c, b = some c ∧ w0.heap.size ≤ c ∧ c < w.heap.size ∧ ¬ fr c ∧ (∀ o, w.frozen? ⟨c, o, none⟩ = false) ∧
      ∀ (j : Nat) x, cs[j]? = some x → ∃ u, w.cell? ⟨c, j, none⟩ = some u ∧ x.is (own.set k ob) (rho ρ k b) fr w u)
    (hr : ∀ mu kl kn e t l, ob = .row mu kl kn e t l → (b = none ∧ l = []) ∨ ∃ c C, b = some c ∧ w0.heap.size ≤ c ∧ Blk w c e (C * t.size) ∧ l.length ≤ C ∧ C ≤ maxLen ∧ RowAt w fr t l c 0 ∧ (mu = true → ¬ fr c) ∧ (mu = false → fr c)) :
    RepM w0 fr0 (rho ρ k b) fr (own.set k ob) w ∧ Grow own ρ fr w (own.set k ob) (rho ρ k b) fr w :=
  ⟨r.step (grow_put hk) r.ext (Nat.le_refl _) (fun _ _ _ _ _ _ _ => rfl) (fun _ _ _ h => h) hi hc hr, grow_put hk⟩
theorem fresh_live {k : Nat} (hk : own.look k = none) {ob : OB} {b : Option Nat} : ∀ o, own.look k = some o → b = ρ k ∧ Keeps o ob := fun o ho => by rw [hk] at ho; cases ho
/-- No live block of own memory is behind this number. -/
theorem RepM.below (r : RepM w0 fr0 ρ fr own w) {k : Nat} {ob : OB} {b : Nat} (hk : own.look k = some ob) (hl : ob.live) (hb : ρ k = some b) : b < w.heap.size ∧ w0.heap.size ≤ b := by
  cases ob with
  | cells cs =>
    obtain ⟨c, h1, h2, h3, _⟩ := r.cells k cs hk
    rw [hb] at h1; cases h1; exact ⟨h3, h2⟩
  | row mu kl kn e t l =>
    rcases r.rows k mu kl kn e t l hk with ⟨h, _⟩ | ⟨c, C, h1, h2, h3, _⟩
    · rw [hb] at h; cases h
    · rw [hb] at h1; cases h1; exact ⟨h3.lt, h2⟩
  | dead => exact hl.elim
/-- A new block of cells. -/
theorem RepM.new (r : RepM w0 fr0 ρ fr own w) {key : Nat} (hk : own.look key = none) {cs : List CV} {us : Array Value} {T : TypeId} (hcs : csIs own ρ fr w cs us.toList) (hok : okKeys own (cs.flatMap CV.keys)) :
    RepM w0 fr0 (rho ρ key (some w.heap.size)) fr (own.set key (.cells cs)) (w.alloc (.cells us T)) ∧ Grow own ρ fr w (own.set key (.cells cs)) (rho ρ key (some w.heap.size)) fr (w.alloc (.cells us T)) := by
  have hx : Ext w (w.alloc (.cells us T)) := (Ext.refl w).alloc _
  have hsz : (w.alloc (.cells us T)).heap.size = w.heap.size + 1 := by show (w.heap.push _).size = _; simp
  have hat : (w.alloc (.cells us T)).heap[w.heap.size]? = some (.cells us T (0, 0)) := by show (w.heap.push _)[w.heap.size]? = _; simp
  obtain ⟨r1, g1⟩ := r.grow hx
  have g2 : Grow own ρ fr (w.alloc (.cells us T)) (own.set key (.cells cs)) (rho ρ key (some w.heap.size)) fr (w.alloc (.cells us T)) := grow_put (fresh_live hk)
  obtain ⟨r3, g3⟩ := r1.put (k := key) (ob := .cells cs) (b := some w.heap.size) (fresh_live hk)
    (fun _ k' o' c _ h1 h2 h3 e => by have := (r.below h1 h2 h3).1; cases e; omega)
    (fun cs' e => by
      cases e
      refine ⟨fun k' hk' => g2.has (hok k' hk'), w.heap.size, rfl, r.ext.size, by omega, fun h => by have := r.frlt _ h; omega, fun o => by simp only [World.frozen?]; rw [hat]; simp, fun j x hj => ?_⟩
      obtain ⟨_, h4⟩ := csIs_get hcs
      obtain ⟨u, hu, hx'⟩ := h4 j x hj
      refine ⟨u, ?_, (g1.trans g2).is (fun k' hk' => hok k' (List.mem_flatMap.2 ⟨x, List.mem_of_getElem? hj, hk'⟩)) hx'⟩
      simp only [World.cell?]
      rw [hat]
      simpa using hu)
    (fun _ _ _ _ _ _ e => by cases e)
  exact ⟨r3, g1.trans g3⟩
/-- A new row: in a new block. -/
theorem RepM.newRow (r : RepM w0 fr0 ρ fr own w) {key : Nat} (hk : own.look key = none) {mu kl kn : Bool} {e : TypeId} {t : Ty} {l : List t.den} {cur : Array Value} {C : Nat} (hmu : mu = true) (hx : Ext w w') (hs : w'.heap[w.heap.size]? = some (.cells cur e (0, 0)))
    (hc : cur.size = C * t.size) (hl : l.length ≤ C) (hC : C ≤ maxLen) (hrow : RowAt w' fr t l w.heap.size 0) :
    RepM w0 fr0 (rho ρ key (some w.heap.size)) fr (own.set key (.row mu kl kn e t l)) w' ∧ Grow own ρ fr w (own.set key (.row mu kl kn e t l)) (rho ρ key (some w.heap.size)) fr w' := by
  obtain ⟨r1, g1⟩ := r.grow hx
  obtain ⟨r3, g3⟩ := r1.put (k := key) (ob := .row mu kl kn e t l) (b := some w.heap.size) (fresh_live hk)
    (fun _ k' o' c _ h1 h2 h3 e => by have := (r.below h1 h2 h3).1; cases e; omega)
    (fun _ e => by cases e)
    (fun _ _ _ _ _ _ e' => by
      cases e'
      exact .inr ⟨w.heap.size, C, rfl, r.ext.size, ⟨cur, hs, hc⟩, hl, hC, hrow, fun _ h => by have := r.frlt _ h; omega, fun h => by rw [hmu] at h; cases h⟩)
  exact ⟨r3, g1.trans g3⟩
/-- A row is not written any more. -/
theorem RepM.freeze (r : RepM w0 fr0 ρ fr own w) {k : Nat} {mu kl kn : Bool} {e : TypeId} {t : Ty} {l : List t.den} (hk : own.look k = some (.row mu kl kn e t l)) :
    ∃ fr', RepM w0 fr0 ρ fr' (own.set k (.row false kl kn e t l)) w ∧ Grow own ρ fr w (own.set k (.row false kl kn e t l)) ρ fr' w ∧ (∀ b, ρ k = some b → fr' b) := by
  have hrho : rho ρ k (ρ k) = ρ := by funext j; unfold rho; split <;> simp_all
  refine ⟨fun b => fr b ∨ ρ k = some b, ?_⟩
  have hf : ∀ b, fr b → (fr b ∨ ρ k = some b) := fun b h => .inl h
  have g : Grow own ρ fr w (own.set k (.row false kl kn e t l)) ρ (fun b => fr b ∨ ρ k = some b) w := ⟨fun j o hj => by
      rw [Own.look_set]
      by_cases e' : j = k
      · subst e'
        rw [hk] at hj; cases hj
        exact ⟨rfl, _, by simp, .inr (.inr ⟨mu, kl, kn, e, t, l, false, kl, kn, l, rfl, rfl, rfl⟩)⟩
      · simp only [e', if_false]; exact ⟨trivial, o, hj, Keeps.rfl' o⟩, hf, fun _ _ _ => rfl, fun _ _ _ _ _ _ h => h⟩
  have other : ∀ j o b, j ≠ k → own.look j = some o → o.live → ρ j = some b → ρ k ≠ some b := fun j o b hne hj hl hb h => hne (r.inj j k o _ b hj hk hl trivial hb h)
  refine ⟨{ ext := r.ext, bas := r.bas, frlt := ?_, frnew := ?_, frold := fun b h => .inl (r.frold b h), cells := ?_, rows := ?_, inj := ?_, okC := ?_ }, g, fun b h => .inr h⟩
  · intro b h
    rcases h with h | h
    · exact r.frlt b h
    · exact (r.below hk trivial h).1
  · intro b h
    rcases h with h | h
    · exact r.frnew b h
    · exact .inr (r.below hk trivial h).2
  · intro j cs hj
    rw [Own.look_set] at hj
    by_cases e' : j = k
    · subst e'; simp at hj
    · simp only [e', if_false] at hj
      obtain ⟨b, h1, h2, h3, h4, h5, h6⟩ := r.cells j cs hj
      refine ⟨b, h1, h2, h3, fun h => ?_, h5, fun i x hi => ?_⟩
      · rcases h with h | h
        · exact h4 h
        · exact other j _ b e' hj trivial h1 h
      · obtain ⟨u, hu, hx⟩ := h6 i x hi
        exact ⟨u, hu, g.is (fun k' hk' => r.okC j cs hj k' (List.mem_flatMap.2 ⟨x, List.mem_of_getElem? hi, hk'⟩)) hx⟩
  · intro j mu' kl' kn' e2 t' l' hj
    rw [Own.look_set] at hj
    by_cases e' : j = k
    · subst e'
      simp only [if_true, Option.some.injEq] at hj
      cases hj
      rcases r.rows j mu kl kn e t l hk with h | ⟨b, C, h1, h2, h3, h4, h5, h6, h7, h8⟩
      · exact .inl h
      · exact .inr ⟨b, C, h1, h2, h3, h4, h5, fun i x hi => by
          obtain ⟨us, h9, h10⟩ := h6 i x hi
          exact ⟨us, h9.mono g.frz g.frc, h10⟩, (fun h => by cases h), fun _ => .inr h1⟩
    · simp only [e', if_false] at hj
      rcases r.rows j mu' kl' kn' e2 t' l' hj with h | ⟨b, C, h1, h2, h3, h4, h5, h6, h7, h8⟩
      · exact .inl h
      · refine .inr ⟨b, C, h1, h2, h3, h4, h5, fun i x hi => by
          obtain ⟨us, h9, h10⟩ := h6 i x hi
          exact ⟨us, h9.mono g.frz g.frc, h10⟩, fun hm h => ?_, fun hm => .inl (h8 hm)⟩
        rcases h with h | h
        · exact h7 hm h
        · exact other j _ b e' hj trivial h1 h
  · intro j j' o o' b hj hj' hl hl' hb hb'
    have key : ∀ i ob, (own.set k (.row false kl kn e t l)).look i = some ob → ob.live → ∃ o2, own.look i = some o2 ∧ o2.live := fun i ob hi hl => by
      rw [Own.look_set] at hi
      by_cases e' : i = k
      · subst e'; exact ⟨_, hk, trivial⟩
      · simp only [e', if_false] at hi; exact ⟨ob, hi, hl⟩
    obtain ⟨o1, h1, l1⟩ := key j o hj hl
    obtain ⟨o2, h2, l2⟩ := key j' o' hj' hl'
    exact r.inj j j' o1 o2 b h1 h2 l1 l2 hb hb'
  · intro j cs hj
    rw [Own.look_set] at hj
    by_cases e' : j = k
    · subst e'; simp at hj
    · simp only [e', if_false] at hj
      exact fun k' hk' => g.has (r.okC j cs hj k' hk')
/-- Cells are stored into a block of own memory. -/
theorem RepM.stored (r : RepM w0 fr0 ρ fr own w) {k b : Nat} {ob ob' : OB} (hk : own.look k = some ob) (hl : ob.live) (hb : ρ k = some b) (hfr : ¬ fr b) (off : Nat) (us : List Value) (hK : Keeps ob ob') (_hl' : ob'.live)
    (hc : ∀ cs, ob' = .cells cs → okKeys own (cs.flatMap CV.keys) ∧ (∀ o, w.frozen? ⟨b, o, none⟩ = false) ∧ ∀ (j : Nat) x, cs[j]? = some x → ∃ u, (w.setCells b off us).cell? ⟨b, j, none⟩ = some u ∧ x.is own ρ fr w u)
    (hr : ∀ mu kl kn e t l, ob' = .row mu kl kn e t l → mu = true ∧ ∃ C, Blk w b e (C * t.size) ∧ l.length ≤ C ∧ C ≤ maxLen ∧ RowAt (w.setCells b off us) fr t l b 0) :
    RepM w0 fr0 ρ fr (own.set k ob') (w.setCells b off us) ∧ Grow own ρ fr w (own.set k ob') ρ fr (w.setCells b off us) := by
  have hrho : rho ρ k (some b) = ρ := by funext j; unfold rho; split <;> simp_all
  have hlo := r.below hk hl hb
  have hext : Ext w0 (w.setCells b off us) := stored_cells us off w w0 r.ext hlo.2
  have gw : Grow own ρ fr w (own.set k ob') ρ fr (w.setCells b off us) := ⟨fun j o hj => by
      rw [Own.look_set]
      by_cases e' : j = k
      · subst e'
        rw [hk] at hj; cases hj
        exact ⟨rfl, ob', by simp, hK⟩
      · simp only [e', if_false]; exact ⟨trivial, o, hj, Keeps.rfl' o⟩, fun _ h => h, fun c hc' o => by
        simp only [World.cell?, setCells_heap us b off w (show c ≠ b from fun e => hfr (e ▸ hc'))], fun _ c e n _ _ h => h.setCells us b off⟩
  have := r.step (k := k) (ob := ob') (b := some b) (w' := w.setCells b off us) (by rw [hrho]; exact gw) hext (by rw [size_setCells]; exact Nat.le_refl _)
    (fun j o c hne hj hlj hc' => setCells_heap us b off w fun e => hne (r.inj j k o ob b hj hk hlj hl (e ▸ hc') hb)) (fun c e n h => h.setCells us b off)
    (fun _ k' o' c hne h1 h2 h3 e => by cases e; exact hne (r.inj k' k o' ob b h1 hk h2 hl h3 hb))
    (fun cs e => by
      obtain ⟨h1, h2, h3⟩ := hc cs e
      refine ⟨fun k' hk' => gw.has (h1 k' hk'), b, rfl, hlo.2, by rw [size_setCells]; exact hlo.1, hfr, fun o => by rw [World.frozen?_setCells]; exact h2 o, fun j x hj => ?_⟩
      obtain ⟨u, hu, hx⟩ := h3 j x hj
      rw [hrho]
      exact ⟨u, hu, gw.is (fun k' hk' => h1 k' (List.mem_flatMap.2 ⟨x, List.mem_of_getElem? hj, hk'⟩)) hx⟩)
    (fun mu kl kn e t l e' => by
      obtain ⟨hm, C, h1, h2, h3, h4⟩ := hr mu kl kn e t l e'
      exact .inr ⟨b, C, rfl, hlo.2, h1.setCells us b off, h2, h3, h4, fun _ => hfr, fun h => by rw [hm] at h; cases h⟩)
  rw [hrho] at this
  exact ⟨this, gw⟩
/-- A block is not spoken of any more. -/
theorem RepM.kill (r : RepM w0 fr0 ρ fr own w) (k : Nat) : RepM w0 fr0 ρ fr (own.set k .dead) w ∧ Grow own ρ fr w (own.set k .dead) ρ fr w := by
  have hrho : rho ρ k (ρ k) = ρ := by funext j; unfold rho; split <;> simp_all
  have := r.put (k := k) (ob := .dead) (b := ρ k) (fun o _ => ⟨rfl, .inl rfl⟩) (fun h => h.elim) (fun _ e => by cases e) (fun _ _ _ _ _ _ e => by cases e)
  rwa [hrho] at this
end
end Go.Proofs.Ytacgchandefjgaa
