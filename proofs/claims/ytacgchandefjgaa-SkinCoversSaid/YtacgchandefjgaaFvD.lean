/-
  The evaluator is right: what its states say of a run's. No program is named here.
-/
import Derived.Test.YtacgchandefjgaaFvC
import Derived.Test.YtacgchandefjgaaBas
namespace Go.Proofs.Ytacgchandefjgaa
open Go
/-- The cells us hold the element x; slices in it lie in blocks of fr. -/
def Ty.Is (w : World) (fr : Nat → Prop) : (t : Ty) → t.den → List Value → Prop
  | .int k, x, vs => vs = [.int k x]
  | .bool, x, vs => vs = [.bool x]
  | .str, x, vs => vs = [.string x]
  | .prod a b, x, vs => ∃ us ws, vs = us ++ ws ∧ a.Is w fr x.1 us ∧ b.Is w fr x.2 ws
  | .list t, (l : List t.den), vs => ∃ a c, vs = [.slice a l.length c] ∧ l.length ≤ c ∧ c ≤ maxLen ∧ (l ≠ [] → ∃ b o, a = some ⟨b, o, none⟩ ∧ fr b ∧
      ∀ (i : Nat) x, l[i]? = some x → ∃ us, t.Is w fr x us ∧ ∀ (j : Nat) u, us[j]? = some u → w.cell? ⟨b, o + i * t.size + j, none⟩ = some u)
def RowAt (w : World) (fr : Nat → Prop) (t : Ty) (l : List t.den) (b o : Nat) : Prop :=
  ∀ (i : Nat) x, l[i]? = some x → ∃ us, t.Is w fr x us ∧ ∀ (j : Nat) u, us[j]? = some u → w.cell? ⟨b, o + i * t.size + j, none⟩ = some u
theorem Ty.Is.mono {w w' : World} {fr fr' : Nat → Prop} (hf : ∀ b, fr b → fr' b) (hc : ∀ b, fr b → ∀ o, w'.cell? ⟨b, o, none⟩ = w.cell? ⟨b, o, none⟩) :
    ∀ {t : Ty} {x : t.den} {vs : List Value}, t.Is w fr x vs → t.Is w' fr' x vs
  | .int _, _, _, h => h
  | .bool, _, _, h => h
  | .str, _, _, h => h
  | .prod a b, _, _, ⟨us, ws, e, h1, h2⟩ => ⟨us, ws, e, Ty.Is.mono hf hc h1, Ty.Is.mono hf hc h2⟩
  | .list t, _, _, ⟨a, c, e, h1, h2, h3⟩ => ⟨a, c, e, h1, h2, fun hn => by
      obtain ⟨b, o, e, hb, hx⟩ := h3 hn
      exact ⟨b, o, e, hf b hb, fun i x hi => by
        obtain ⟨us, h4, h5⟩ := hx i x hi
        exact ⟨us, Ty.Is.mono hf hc h4, fun j u hj => by rw [hc b hb]; exact h5 j u hj⟩⟩⟩
theorem Ty.Is.length {w : World} {fr : Nat → Prop} : ∀ {t : Ty} {x : t.den} {vs : List Value}, t.Is w fr x vs → vs.length = t.size
  | .int _, _, _, h => by cases h; rfl
  | .bool, _, _, h => by cases h; rfl
  | .str, _, _, h => by cases h; rfl
  | .prod a b, _, _, ⟨us, ws, e, h1, h2⟩ => by subst e; simp [Ty.size, h1.length, h2.length]
  | .list t, _, _, ⟨a, c, e, _⟩ => by subst e; rfl
theorem Ty.Is.one {w : World} {fr : Nat → Prop} : ∀ {t : Ty} {x : t.den} {vs : List Value}, t.Is w fr x vs → ∀ u ∈ vs, u.oneCell' = true
  | .int _, _, _, h, u, hu => by cases h; simp at hu; subst hu; rfl
  | .bool, _, _, h, u, hu => by cases h; simp at hu; subst hu; rfl
  | .str, _, _, h, u, hu => by cases h; simp at hu; subst hu; rfl
  | .prod a b, _, _, ⟨us, ws, e, h1, h2⟩, u, hu => by
    subst e
    rcases List.mem_append.1 hu with h | h
    · exact h1.one u h
    · exact h2.one u h
  | .list t, _, _, ⟨a, c, e, _⟩, u, hu => by subst e; simp at hu; subst hu; rfl
/-- A block of n cells of m elements. -/
def Blk (w : World) (b : Nat) (e : TypeId) (n : Nat) : Prop := ∃ cur, w.heap[b]? = some (.cells cur e (0, 0)) ∧ cur.size = n
theorem Blk.lt {w : World} {b : Nat} {e : TypeId} {n : Nat} (h : Blk w b e n) : b < w.heap.size := by
  obtain ⟨cur, h, _⟩ := h
  exact (Array.getElem?_eq_some_iff.1 h).1
theorem Blk.fz {w : World} {b : Nat} {e : TypeId} {n : Nat} (h : Blk w b e n) (o : Nat) : w.frozen? ⟨b, o, none⟩ = false := by
  obtain ⟨cur, h, _⟩ := h
  simp [World.frozen?, h]
theorem Blk.cell {w : World} {b : Nat} {e : TypeId} {n : Nat} (h : Blk w b e n) {o : Nat} (ho : o < n) : (w.cell? ⟨b, o, none⟩).isSome = true := by
  obtain ⟨cur, h, hs⟩ := h
  simp [World.cell?, h, hs, ho]
theorem Blk.ext {w w' : World} {b : Nat} {e : TypeId} {n : Nat} (h : Blk w b e n) (hx : Ext w w') : Blk w' b e n := by
  have hl := h.lt
  obtain ⟨cur, h, hs⟩ := h
  exact ⟨cur, by rw [hx.block b hl]; exact h, hs⟩
theorem setCell_heap (w : World) (a : Addr) (v : Value) (b : Nat) (hb : b ≠ a.block) : (w.setCell a v).heap[b]? = w.heap[b]? := by
  simp [World.setCell, Array.getElem?_modify, Ne.symm hb]
theorem Blk.setCell {w : World} {b : Nat} {e : TypeId} {n : Nat} (h : Blk w b e n) (a : Addr) (v : Value) : Blk (w.setCell a v) b e n := by
  obtain ⟨cur, h, hs⟩ := h
  by_cases hb : b = a.block
  · subst hb
    refine ⟨if a.spot.isSome then cur else cur.setIfInBounds a.off v, ?_, ?_⟩
    · simp [World.setCell, Array.getElem?_modify, h]
    · split <;> simp [hs]
  · exact ⟨cur, by rw [setCell_heap w a v b hb]; exact h, hs⟩
theorem Blk.setCells {b' : Nat} {e : TypeId} {n : Nat} : ∀ (vs : List Value) (b o : Nat) (w : World), Blk w b' e n → Blk (w.setCells b o vs) b' e n
  | [], _, _, _, h => h
  | v :: r, b, o, _, h => Blk.setCells r b (o + 1) _ (h.setCell _ v)
theorem setCells_heap {b' : Nat} : ∀ (vs : List Value) (b o : Nat) (w : World), b' ≠ b → (w.setCells b o vs).heap[b']? = w.heap[b']?
  | [], _, _, _, _ => rfl
  | v :: r, b, o, w, h => by
    rw [World.setCells, setCells_heap r b (o + 1) _ h]
    exact setCell_heap w _ v b' h
/-- How many elements a slice of an own row has. -/
def OB.live : OB → Prop
  | .dead => False
  | _ => True
def capsIs (ρ : Nat → Option Nat) : List (Nat × Nat) → List Value → Prop
  | [], as => as = []
  | q :: r, as => ∃ b as', as = .pointer (some ⟨b, q.2, none⟩) :: as' ∧ ρ q.1 = some b ∧ capsIs ρ r as'
section
variable (own : Own) (ρ : Nat → Option Nat) (fr : Nat → Prop) (w : World)
/-- A slice of an own row: of a row that has no block yet, or of one in block b. -/
def SIs (k i : Nat) (n : Option Nat) (u : Value) : Prop :=
  match own.look k with
  | some (.row _ _ _ e t l) => i + cutLen l i n ≤ l.length ∧ ((ρ k = none ∧ (∃ a, u = .slice a 0 0) ∧ cutLen l i n = 0) ∨
      ∃ b C a c, ρ k = some b ∧ Blk w b e (C * t.size) ∧ u = .slice a (cutLen l i n) c ∧ cutLen l i n ≤ c ∧ c ≤ maxLen ∧ C ≤ maxLen ∧ (i = 0 ∨ 0 < cutLen l i n → a = some ⟨b, i * t.size, none⟩ ∧ i + c = C))
  | some (.cells _) => (∃ a m c, u = .slice a m c) ∧ ∀ m, n = some m → ∃ b c, ρ k = some b ∧ u = .slice (some ⟨b, i, none⟩) m c ∧ m ≤ c ∧ c ≤ maxLen
  | _ => ∃ a m c, u = .slice a m c
/-- The value u is what x says: whatever it is, for junk. -/
def CV.is : CV → Value → Prop
  | .v _ x, u => u = x
  | .p k off, u => ∃ b, ρ k = some b ∧ u = .pointer (some ⟨b, off, none⟩)
  | .fn f caps, u => ∃ as, u = .func (.func f) #[] (List.toArray as) ∧ capsIs ρ caps as
  | .junk, _ => True
  | .d _ _ t l, u => (Ty.list t).Is w fr l [u]
  | .s _ k i n, u => SIs own ρ w k i n u
  | .e _ t x off, u => ∃ b o, u = .pointer (some ⟨b, o + off, none⟩) ∧ fr b ∧ ∃ us, t.Is w fr x us ∧ ∀ (j : Nat) v, us[j]? = some v → w.cell? ⟨b, o + j, none⟩ = some v
  | .ap _ k i m off, u => ∃ b, ρ k = some b ∧ u = .pointer (some ⟨b, i * m + off, none⟩)
def csIs : List CV → List Value → Prop
  | [], us => us = []
  | c :: cs, us => ∃ u us', us = u :: us' ∧ c.is own ρ fr w u ∧ csIs cs us'
def partIs (q : Bool × List CV) (u : Value) : Prop := ∃ us, csIs own ρ fr w q.2 us ∧ (match q.1 with | true => u = .agg us.toArray | false => us = [u])
def partsIs : List (Bool × List CV) → List Value → Prop
  | [], us => us = []
  | q :: r, us => ∃ u us', us = u :: us' ∧ partIs own ρ fr w q u ∧ partsIs r us'
def AV.is : AV → Value → Prop
  | .one x, u => x.is own ρ fr w u
  | .ag l, u => ∃ us, u = .agg (List.toArray us) ∧ csIs own ρ fr w l us
  | .tup l, u => ∃ us, u = .tuple (List.toArray us) ∧ partsIs own ρ fr w l us
def okKeys (ks : List Nat) : Prop := ∀ k ∈ ks, has own k = true
end
theorem has_look {own : Own} {k : Nat} : has own k = true ↔ ∃ ob, own.look k = some ob := by
  unfold has
  cases h : own.look k <;> simp
/-- What may become of a block: it goes, its cells change, its elements change. -/
def Keeps (ob ob' : OB) : Prop :=
  ob' = .dead ∨ (∃ c c', ob = .cells c ∧ ob' = .cells c') ∨ ∃ mu kl kn e t l mu' kl' kn' l', ob = .row mu kl kn e t l ∧ ob' = .row mu' kl' kn' e t l' ∧ l'.length = l.length
theorem Keeps.rfl' (ob : OB) : Keeps ob ob := by
  cases ob with
  | cells c => exact .inr (.inl ⟨c, c, rfl, rfl⟩)
  | row mu kl kn e t l => exact .inr (.inr ⟨mu, kl, kn, e, t, l, mu, kl, kn, l, rfl, rfl, rfl⟩)
  | dead => exact .inl rfl
theorem Keeps.trans {a b c : OB} (h : Keeps a b) (k : Keeps b c) : Keeps a c := by
  rcases k with rfl | ⟨x, y, rfl, rfl⟩ | ⟨mu, kl, kn, e, t, l, mu', kl', kn', l', rfl, rfl, hl⟩
  · exact .inl rfl
  · rcases h with h | ⟨x', y', rfl, h⟩ | ⟨_, _, _, _, _, _, _, _, _, _, _, h, _⟩
    · cases h
    · exact .inr (.inl ⟨_, _, rfl, rfl⟩)
    · cases h
  · rcases h with h | ⟨x', y', rfl, h⟩ | ⟨a1, a2, a3, a4, a5, a6, a7, a8, a9, a10, rfl, h, hl2⟩
    · cases h
    · cases h
    · cases h
      exact .inr (.inr ⟨a1, a2, a3, _, _, a6, mu', kl', kn', l', rfl, rfl, hl.trans hl2⟩)
/-- Between two points of a run: what was said stays so. -/
structure Grow (own : Own) (ρ : Nat → Option Nat) (fr : Nat → Prop) (w : World) (own' : Own) (ρ' : Nat → Option Nat) (fr' : Nat → Prop) (w' : World) : Prop where
  key : ∀ k ob, own.look k = some ob → ρ' k = ρ k ∧ ∃ ob', own'.look k = some ob' ∧ Keeps ob ob'
  frz : ∀ b, fr b → fr' b
  frc : ∀ b, fr b → ∀ o, w'.cell? ⟨b, o, none⟩ = w.cell? ⟨b, o, none⟩
  blk : ∀ k b e n, has own k = true → ρ k = some b → Blk w b e n → Blk w' b e n
theorem Grow.refl (own : Own) (ρ : Nat → Option Nat) (fr : Nat → Prop) (w : World) : Grow own ρ fr w own ρ fr w :=
  ⟨fun _ ob h => ⟨rfl, ob, h, Keeps.rfl' ob⟩, fun _ h => h, fun _ _ _ => rfl, fun _ _ _ _ _ _ h => h⟩
theorem Grow.trans {o1 o2 o3 : Own} {r1 r2 r3 : Nat → Option Nat} {f1 f2 f3 : Nat → Prop} {w1 w2 w3 : World} (h : Grow o1 r1 f1 w1 o2 r2 f2 w2) (k : Grow o2 r2 f2 w2 o3 r3 f3 w3) : Grow o1 r1 f1 w1 o3 r3 f3 w3 where
  key := fun j ob hj => by
    obtain ⟨e1, ob2, h2, k2⟩ := h.key j ob hj
    obtain ⟨e2, ob3, h3, k3⟩ := k.key j ob2 h2
    exact ⟨e2.trans e1, ob3, h3, k2.trans k3⟩
  frz := fun b hb => k.frz b (h.frz b hb)
  frc := fun b hb o => (k.frc b (h.frz b hb) o).trans (h.frc b hb o)
  blk := fun j b e n hj hb hB => by
    obtain ⟨ob, ho⟩ := has_look.1 hj
    obtain ⟨e1, ob2, h2, _⟩ := h.key j ob ho
    exact k.blk j b e n (has_look.2 ⟨ob2, h2⟩) (e1.trans hb) (h.blk j b e n hj hb hB)
section
variable {own own' : Own} {ρ ρ' : Nat → Option Nat} {fr fr' : Nat → Prop} {w w' : World}
theorem Grow.has (g : Grow own ρ fr w own' ρ' fr' w') {k : Nat} (h : has own k = true) : has own' k = true := by
  obtain ⟨ob, ho⟩ := has_look.1 h
  obtain ⟨_, ob', h', _⟩ := g.key k ob ho
  exact has_look.2 ⟨ob', h'⟩
theorem Grow.rho (g : Grow own ρ fr w own' ρ' fr' w') {k : Nat} (h : Go.Proofs.Ytacgchandefjgaa.has own k = true) : ρ' k = ρ k := by
  obtain ⟨ob, ho⟩ := has_look.1 h
  exact (g.key k ob ho).1
theorem cutLen_congr {α β : Type} {l : List α} {l' : List β} (h : l'.length = l.length) (i : Nat) (n : Option Nat) : cutLen l' i n = cutLen l i n := by
  cases n with
  | none => cases i <;> simp [cutLen, h]
  | some n => rfl
theorem SIs.slice {k i : Nat} {n : Option Nat} {u : Value} (h : SIs own ρ w k i n u) : ∃ a m c, u = .slice a m c := by
  unfold SIs at h
  split at h
  · rcases h.2 with ⟨_, ⟨_, h⟩, _⟩ | ⟨b, C, a, c, _, _, h, _⟩
    · exact ⟨_, _, _, h⟩
    · exact ⟨_, _, _, h⟩
  · exact h.1
  · exact h
theorem Grow.sis (g : Grow own ρ fr w own' ρ' fr' w') {k i : Nat} {n : Option Nat} {u : Value} (hk : Go.Proofs.Ytacgchandefjgaa.has own k = true) (h : SIs own ρ w k i n u) : SIs own' ρ' w' k i n u := by
  obtain ⟨ob, ho⟩ := has_look.1 hk
  obtain ⟨e1, ob', ho', hK⟩ := g.key k ob ho
  have hs := h.slice
  unfold SIs at *
  rw [ho] at h
  rw [ho']
  rcases hK with rfl | ⟨c, c', rfl, rfl⟩ | ⟨mu, kl, kn, e, t, l, mu', kl', kn', l', rfl, rfl, hl⟩
  · exact hs
  · simp only at h ⊢
    exact ⟨hs, fun m hm => by
      obtain ⟨b, c, h1, h2⟩ := h.2 m hm
      exact ⟨b, c, e1.trans h1, h2⟩⟩
  · simp only at h ⊢
    rw [cutLen_congr hl, e1, hl]
    obtain ⟨h0, h⟩ := h
    rcases h with h | ⟨b, C, a, c, h1, h2, h3⟩
    · exact ⟨h0, .inl h⟩
    · exact ⟨h0, .inr ⟨b, C, a, c, h1, g.blk k b e _ hk h1 h2, h3⟩⟩
theorem Grow.caps (g : Grow own ρ fr w own' ρ' fr' w') : ∀ {caps : List (Nat × Nat)} {as : List Value}, (∀ q ∈ caps, Go.Proofs.Ytacgchandefjgaa.has own q.1 = true) → capsIs ρ caps as → capsIs ρ' caps as
  | [], _, _, h => h
  | q :: _, _, hk, ⟨b, as', e, hb, h⟩ => ⟨b, as', e, (g.rho (hk q List.mem_cons_self)).trans hb, Grow.caps g (fun x hx => hk x (List.mem_cons_of_mem _ hx)) h⟩
theorem Grow.is (g : Grow own ρ fr w own' ρ' fr' w') {x : CV} {u : Value} (hok : okKeys own x.keys) (h : x.is own ρ fr w u) : x.is own' ρ' fr' w' u := by
  cases x with
  | v _ _ => exact h
  | p k off =>
    obtain ⟨b, hb, e⟩ := h
    exact ⟨b, (g.rho (hok k (by simp [CV.keys]))).trans hb, e⟩
  | fn f caps =>
    obtain ⟨as, e, h⟩ := h
    exact ⟨as, e, g.caps (fun q hq => hok q.1 (by simp [CV.keys]; exact ⟨q.2, hq⟩)) h⟩
  | junk => trivial
  | d _ _ t l => exact Ty.Is.mono (t := .list t) g.frz g.frc h
  | s _ k i n => exact g.sis (hok k (by simp [CV.keys])) h
  | e _ t x off =>
    obtain ⟨b, o, e, hb, us, h1, h2⟩ := h
    exact ⟨b, o, e, g.frz b hb, us, h1.mono g.frz g.frc, fun j v hj => by rw [g.frc b hb]; exact h2 j v hj⟩
  | ap _ k i m off =>
    obtain ⟨b, hb, e⟩ := h
    exact ⟨b, (g.rho (hok k (by simp [CV.keys]))).trans hb, e⟩
theorem Grow.cs (g : Grow own ρ fr w own' ρ' fr' w') : ∀ {l : List CV} {us : List Value}, okKeys own (l.flatMap CV.keys) → csIs own ρ fr w l us → csIs own' ρ' fr' w' l us
  | [], _, _, h => h
  | c :: cs, _, hk, ⟨u, us', e, h1, h2⟩ => ⟨u, us', e, g.is (fun k hk' => hk k (by simp [hk'])) h1, Grow.cs g (fun k hk' => hk k (by rw [List.flatMap_cons]; exact List.mem_append_right _ hk')) h2⟩
theorem Grow.parts (g : Grow own ρ fr w own' ρ' fr' w') : ∀ {l : List (Bool × List CV)} {us : List Value}, okKeys own ((l.flatMap (·.2)).flatMap CV.keys) → partsIs own ρ fr w l us → partsIs own' ρ' fr' w' l us
  | [], _, _, h => h
  | q :: r, _, hk, ⟨u, us', e, ⟨vs, h1, h1'⟩, h2⟩ => ⟨u, us', e, ⟨vs, g.cs (fun k hk' => hk k (by rw [List.flatMap_cons, List.flatMap_append]; exact List.mem_append_left _ hk')) h1, h1'⟩,
      Grow.parts g (fun k hk' => hk k (by rw [List.flatMap_cons, List.flatMap_append]; exact List.mem_append_right _ hk')) h2⟩
theorem Grow.av (g : Grow own ρ fr w own' ρ' fr' w') {x : AV} {u : Value} (hok : okKeys own x.keys) (h : x.is own ρ fr w u) : x.is own' ρ' fr' w' u := by
  cases x with
  | one c => exact g.is (fun k hk => hok k (by simpa [AV.keys, AV.cvs] using hk)) h
  | ag l =>
    obtain ⟨us, e, h⟩ := h
    exact ⟨us, e, g.cs (fun k hk => hok k hk) h⟩
  | tup l =>
    obtain ⟨us, e, h⟩ := h
    exact ⟨us, e, g.parts (fun k hk => hok k hk) h⟩
end
theorem csIs_get {own : Own} {ρ : Nat → Option Nat} {fr : Nat → Prop} {w : World} : ∀ {l : List CV} {us : List Value}, csIs own ρ fr w l us → us.length = l.length ∧ ∀ (j : Nat) x, l[j]? = some x → ∃ u, us[j]? = some u ∧ x.is own ρ fr w u
  | [], _, h => by cases h; simp
  | c :: cs, _, ⟨u, us', e, h1, h2⟩ => by
    subst e
    obtain ⟨h3, h4⟩ := csIs_get h2
    refine ⟨by simp [h3], fun j x hj => ?_⟩
    cases j with
    | zero => simp at hj; subst hj; exact ⟨u, by simp, h1⟩
    | succ j => simpa using h4 j x (by simpa using hj)
theorem csIs_mk {own : Own} {ρ : Nat → Option Nat} {fr : Nat → Prop} {w : World} : ∀ {l : List CV} {us : List Value}, us.length = l.length → (∀ (j : Nat) x u, l[j]? = some x → us[j]? = some u → x.is own ρ fr w u) → csIs own ρ fr w l us
  | [], us, h, _ => by simpa [csIs] using h
  | c :: cs, [], h, _ => by simp at h
  | c :: cs, u :: us, h, hx => ⟨u, us, rfl, hx 0 c u rfl rfl, csIs_mk (by simpa using h) fun j x v hj hv => hx (j + 1) x v (by simpa using hj) (by simpa using hv)⟩
theorem csIs_append {own : Own} {ρ : Nat → Option Nat} {fr : Nat → Prop} {w : World} : ∀ {l l' : List CV} {us us' : List Value}, csIs own ρ fr w l us → csIs own ρ fr w l' us' → csIs own ρ fr w (l ++ l') (us ++ us')
  | [], _, _, _, h, h' => by cases h; exact h'
  | c :: cs, _, _, _, ⟨u, us1, e, h1, h2⟩, h' => by subst e; exact ⟨u, us1 ++ _, rfl, h1, csIs_append h2 h'⟩
/-- The world and the blocks that the evaluator speaks of. -/
structure RepM (w0 : World) (fr0 : Nat → Prop) (ρ : Nat → Option Nat) (fr : Nat → Prop) (own : Own) (w : World) : Prop where
  ext : Ext w0 w
  bas : Bas w0
  frlt : ∀ b, fr b → b < w.heap.size
  frnew : ∀ b, fr b → fr0 b ∨ w0.heap.size ≤ b
  frold : ∀ b, fr0 b → fr b
  cells : ∀ k cs, own.look k = some (.cells cs) → ∃ b, ρ k = some b ∧ w0.heap.size ≤ b ∧ b < w.heap.size ∧ ¬ fr b ∧ (∀ o, w.frozen? ⟨b, o, none⟩ = false) ∧
    ∀ (j : Nat) x, cs[j]? = some x → ∃ u, w.cell? ⟨b, j, none⟩ = some u ∧ x.is own ρ fr w u
  rows : ∀ k mu kl kn e t l, own.look k = some (.row mu kl kn e t l) → (ρ k = none ∧ l = []) ∨ ∃ b C, ρ k = some b ∧ w0.heap.size ≤ b ∧ Blk w b e (C * t.size) ∧ l.length ≤ C ∧ C ≤ maxLen ∧
    RowAt w fr t l b 0 ∧ (mu = true → ¬ fr b) ∧ (mu = false → fr b)
  inj : ∀ k k' ob ob' b, own.look k = some ob → own.look k' = some ob' → ob.live → ob'.live → ρ k = some b → ρ k' = some b → k = k'
  okC : ∀ k cs, own.look k = some (.cells cs) → okKeys own (cs.flatMap CV.keys)
/-- The temporaries too. -/
structure Rep (w0 : World) (fr0 : Nat → Prop) (ρ : Nat → Option Nat) (fr : Nat → Prop) (tm : List AV) (own : Own) (a : Act) (w : World) : Prop extends RepM w0 fr0 ρ fr own w where
  len : a.tmps.size = tm.length
  tmp : ∀ (t : Nat) (x : AV), tm[t]? = some x → ∃ u, a.tmps[t]? = some u ∧ x.is own ρ fr w u
  df : a.defers = []
  okT : ∀ x ∈ tm, okKeys own x.keys
end Go.Proofs.Ytacgchandefjgaa
