/-
  Loops with an open number of rounds: states in a normal form, rows under fixed keys. No program is named here.
-/
import Derived.Test.YtacgchandefjgaaFvX
namespace Go.Proofs.Ytacgchandefjgaa
open Go
/-- Other keys; and nothing is known ahead. -/
def renC (f : Nat → Nat) : CV → CV
  | .v _ x => .v false x
  | .p k off => .p (f k) off
  | .fn g caps => .fn g (caps.map fun q => (f q.1, q.2))
  | .junk => .junk
  | .d _ _ t l => .d false false t l
  | .s _ k i n => .s false (f k) i n
  | .e _ t x off => .e false t x off
  | .ap _ k i m off => .ap false (f k) i m off
def renA (f : Nat → Nat) : AV → AV
  | .one x => .one (renC f x)
  | .ag l => .ag (l.map (renC f))
  | .tup l => .tup (l.map fun q => (q.1, q.2.map (renC f)))
/-- A row that a cell leads to: it bears the key K. -/
structure Anch where
  K : Nat
  tmp : Option Nat
  blk : Nat
  off : Nat
  e : TypeId
  t : Ty
def anchKey (tm : List AV) (own : Own) (a : Anch) : Option Nat :=
  match a.tmp with
  | some t => (match tm[t]? with | some (.one (.s _ j _ _)) => some j | _ => none)
  | none =>
    match own.look a.blk with
    | some (.cells cs) => match cs[a.off]? with | some (.s _ j _ _) => some j | _ => none
    | _ => none
def renK (tm : List AV) (own : Own) : List Anch → Nat → Nat
  | [], j => j
  | a :: r, j => match anchKey tm own a with | some i => (match Nat.beq i j with | true => a.K | false => renK tm own r j) | none => renK tm own r j
def isNil : CV → Bool
  | .v _ (.slice none 0 0) => true
  | _ => false
def anchK : List Anch → Nat → Option Anch
  | [], _ => none
  | a :: r, k => match Nat.beq a.K k with | true => some a | false => anchK r k
def anchAt : List Anch → Nat → Nat → Option Anch
  | [], _, _ => none
  | a :: r, b, o => match a.tmp with | none => (match Nat.beq a.blk b && Nat.beq a.off o with | true => some a | false => anchAt r b o) | some _ => anchAt r b o
def anchTm : List Anch → Nat → Option Anch
  | [], _ => none
  | a :: r, t => match a.tmp with | some i => (match Nat.beq i t with | true => some a | false => anchTm r t) | none => anchTm r t
/-- A temporary under other keys; nil, where a row is spoken of, is an empty row. -/
def newT (As : List Anch) (f : Nat → Nat) (t : Nat) (x : AV) : AV :=
  match x with
  | .one c => (match isNil c with
    | true => (match anchTm As t with | some a => (match Nat.ble 100000 a.K with | true => .one (.d false false a.t []) | false => .one (.s false a.K 0 none)) | none => renA f x)
    | false => renA f x)
  | x => renA f x
def newTs (As : List Anch) (f : Nat → Nat) : Nat → List AV → List AV
  | _, [] => []
  | t, x :: r => newT As f t x :: newTs As f (t + 1) r
def newC (As : List Anch) (f : Nat → Nat) (blk off : Nat) (c : CV) : CV :=
  match isNil c with
  | true => (match anchAt As blk off with | some a => .s false a.K 0 none | none => renC f c)
  | false => renC f c
def newCs (As : List Anch) (f : Nat → Nat) (blk : Nat) : Nat → List CV → List CV
  | _, [] => []
  | o, c :: r => newC As f blk o c :: newCs As f blk (o + 1) r
def newOB (tm : List AV) (own : Own) (As : List Anch) (dd : List Nat) (k : Nat) : OB :=
  match anchK As k with
  | some a =>
    (match anchKey tm own a with
    | some j => (match own.look j with | some (.row mu _ _ e t l) => .row mu false false e t l | _ => .dead)
    | none => .row true false false a.e a.t [])
  | none =>
    match dd.contains k with
    | true => .dead
    | false => match own.look k with | some (.cells l) => .cells (newCs As (renK tm own As) k 0 l) | some (.row mu _ _ e t l) => .row mu false false e t l | _ => .dead
def mapKeys (g : Nat → OB) : List Nat → Own
  | [] => []
  | k :: r => (k, g k) :: mapKeys g r
def canA (W : List Nat) (As : List Anch) (ks dd : List Nat) (nx : Nat) (st : Stt) : Stt := ⟨newTs As (renK (junks W st.tm) st.own As) 0 (junks W st.tm), mapKeys (newOB (junks W st.tm) st.own As dd) ks, nx⟩
def distinctB : List Nat → Bool
  | [] => true
  | k :: r => !(r.contains k) && distinctB r
def keyOk (tm : List AV) (own : Own) (As : List Anch) (j : Nat) : Bool :=
  match anchK As j with
  | none => true
  | some _ => As.any fun a => match anchKey tm own a with | some i => Nat.beq i j | none => false
/-- What is kept of a state's keys. -/
def OB.cks : OB → List Nat
  | .cells l => l.flatMap CV.keys
  | _ => []
def canAok (W : List Nat) (As : List Anch) (ks dd : List Nat) (nx : Nat) (st : Stt) : Bool :=
  ((distinctB (As.map (·.K)) && distinctB (As.filterMap (anchKey (junks W st.tm) st.own))) &&
   ((As.all fun a => match anchKey (junks W st.tm) st.own a with | some j => (match anchK As j with | some _ => true | none => dd.contains j) | none => true) &&
    ((junks W st.tm).all fun x => x.keys.all (keyOk (junks W st.tm) st.own As)))) &&
  (((ks.all fun k => match anchK As k, dd.contains k, st.own.look k with | none, false, some ob => ob.cks.all (keyOk (junks W st.tm) st.own As) | _, _, _ => true)) &&
   ((canA W As ks dd nx st).tm.all (fun x => x.keys.all fun k => ks.contains k) && (canA W As ks dd nx st).own.all (fun q => q.2.cks.all fun k => ks.contains k)))
theorem distinct_map {α : Type} {g : α → Nat} : ∀ {l : List α}, distinctB (l.map g) = true → ∀ {a b}, a ∈ l → b ∈ l → g a = g b → a = b
  | [], _, _, _, h, _, _ => by cases h
  | x :: r, hd, a, b, ha, hb, e => by
    simp only [List.map_cons, distinctB, Bool.and_eq_true, Bool.not_eq_true', List.contains_eq_mem, decide_eq_false_iff_not] at hd
    rcases List.mem_cons.1 ha with rfl | ha1
    · rcases List.mem_cons.1 hb with rfl | hb1
      · rfl
      · exact absurd (List.mem_map.2 ⟨b, hb1, e.symm⟩) hd.1
    · rcases List.mem_cons.1 hb with rfl | hb1
      · exact absurd (List.mem_map.2 ⟨a, ha1, e⟩) hd.1
      · exact distinct_map hd.2 ha1 hb1 e
theorem distinct_fm {α : Type} {g : α → Option Nat} : ∀ {l : List α}, distinctB (l.filterMap g) = true → ∀ {a b j}, a ∈ l → b ∈ l → g a = some j → g b = some j → a = b
  | [], _, _, _, _, h, _, _, _ => by cases h
  | x :: r, hd, a, b, j, ha, hb, e1, e2 => by
    have hr : distinctB (r.filterMap g) = true := by
      cases hx : g x with
      | none => rw [List.filterMap_cons_none hx] at hd; exact hd
      | some y => rw [List.filterMap_cons_some hx] at hd; simp only [distinctB, Bool.and_eq_true] at hd; exact hd.2
    have hn : ∀ c ∈ r, g x = some j → g c = some j → False := fun c hc h1 h2 => by
      rw [List.filterMap_cons_some h1] at hd
      simp only [distinctB, Bool.and_eq_true, Bool.not_eq_true', List.contains_eq_mem, decide_eq_false_iff_not] at hd
      exact hd.1 (List.mem_filterMap.2 ⟨c, hc, h2⟩)
    rcases List.mem_cons.1 ha with rfl | ha1
    · rcases List.mem_cons.1 hb with rfl | hb1
      · rfl
      · exact (hn b hb1 e1 e2).elim
    · rcases List.mem_cons.1 hb with rfl | hb1
      · exact (hn a ha1 e2 e1).elim
      · exact distinct_fm hr ha1 hb1 e1 e2
theorem anchK_some : ∀ {As : List Anch} {k : Nat} {a : Anch}, anchK As k = some a → a ∈ As ∧ a.K = k
  | [], _, _, h => by cases h
  | x :: r, k, a, h => by
    simp only [anchK] at h
    split at h
    · rename_i hb
      simp only [Option.some.injEq] at h; subst h
      exact ⟨List.mem_cons_self, Nat.eq_of_beq_eq_true hb⟩
    · obtain ⟨h1, h2⟩ := anchK_some h
      exact ⟨List.mem_cons_of_mem _ h1, h2⟩
theorem anchK_mem : ∀ {As : List Anch} {a : Anch}, a ∈ As → ∃ b, anchK As a.K = some b
  | [], _, h => by cases h
  | x :: r, a, h => by
    simp only [anchK]
    split
    · exact ⟨x, rfl⟩
    · rename_i hb
      rcases List.mem_cons.1 h with rfl | h1
      · simp at hb
      · exact anchK_mem h1
theorem anchAt_some : ∀ {As : List Anch} {b o : Nat} {a : Anch}, anchAt As b o = some a → a ∈ As ∧ a.tmp = none ∧ a.blk = b ∧ a.off = o
  | [], _, _, _, h => by cases h
  | x :: r, b, o, a, h => by
    simp only [anchAt] at h
    split at h
    · rename_i ht
      split at h
      · rename_i hb
        rw [Bool.and_eq_true] at hb
        simp only [Option.some.injEq] at h; subst h
        exact ⟨List.mem_cons_self, ht, Nat.eq_of_beq_eq_true hb.1, Nat.eq_of_beq_eq_true hb.2⟩
      · obtain ⟨h1, h2⟩ := anchAt_some h
        exact ⟨List.mem_cons_of_mem _ h1, h2⟩
    · obtain ⟨h1, h2⟩ := anchAt_some h
      exact ⟨List.mem_cons_of_mem _ h1, h2⟩
theorem anchTm_some : ∀ {As : List Anch} {t : Nat} {a : Anch}, anchTm As t = some a → a ∈ As ∧ a.tmp = some t
  | [], _, _, h => by cases h
  | x :: r, t, a, h => by
    simp only [anchTm] at h
    split at h
    · rename_i i hi
      split at h
      · rename_i hb
        simp only [Option.some.injEq] at h; subst h
        exact ⟨List.mem_cons_self, by rw [hi, Nat.eq_of_beq_eq_true hb]⟩
      · obtain ⟨h1, h2⟩ := anchTm_some h
        exact ⟨List.mem_cons_of_mem _ h1, h2⟩
    · obtain ⟨h1, h2⟩ := anchTm_some h
      exact ⟨List.mem_cons_of_mem _ h1, h2⟩
theorem newTs_get {As : List Anch} {f : Nat → Nat} : ∀ {l : List AV} {o j : Nat} {x : AV}, (newTs As f o l)[j]? = some x → ∃ c, l[j]? = some c ∧ x = newT As f (o + j) c
  | [], _, _, _, h => by simp [newTs] at h
  | c :: r, o, j, x, h => by
    cases j with
    | zero => simp [newTs] at h; exact ⟨c, rfl, h.symm⟩
    | succ j =>
      obtain ⟨c', h1, h2⟩ := newTs_get (l := r) (o := o + 1) (j := j) (by simpa [newTs] using h)
      exact ⟨c', by simpa using h1, by rw [h2]; congr 1; omega⟩
theorem newTs_length {As : List Anch} {f : Nat → Nat} : ∀ {l : List AV} {o : Nat}, (newTs As f o l).length = l.length
  | [], _ => rfl
  | _ :: r, o => by simp [newTs, newTs_length (l := r)]
theorem renK_cases (tm : List AV) (own : Own) : ∀ (As : List Anch) (j : Nat), (∃ a ∈ As, anchKey tm own a = some j ∧ renK tm own As j = a.K) ∨ (renK tm own As j = j ∧ ∀ a ∈ As, anchKey tm own a ≠ some j)
  | [], j => .inr ⟨rfl, fun _ h => by cases h⟩
  | x :: r, j => by
    simp only [renK]
    cases hx : anchKey tm own x with
    | none =>
      rcases renK_cases tm own r j with ⟨a, h1, h2, h3⟩ | ⟨h1, h2⟩
      · exact .inl ⟨a, List.mem_cons_of_mem _ h1, h2, h3⟩
      · refine .inr ⟨h1, fun a ha => ?_⟩
        rcases List.mem_cons.1 ha with rfl | ha
        · rw [hx]; exact fun h => by cases h
        · exact h2 a ha
    | some i =>
      dsimp only
      cases hb : Nat.beq i j with
      | true =>
        have := Nat.eq_of_beq_eq_true hb
        subst this
        exact .inl ⟨x, List.mem_cons_self, hx, rfl⟩
      | false =>
        dsimp only
        rcases renK_cases tm own r j with ⟨a, h1, h2, h3⟩ | ⟨h1, h2⟩
        · exact .inl ⟨a, List.mem_cons_of_mem _ h1, h2, h3⟩
        · refine .inr ⟨h1, fun a ha => ?_⟩
          rcases List.mem_cons.1 ha with rfl | ha
          · rw [hx]; intro h
            simp only [Option.some.injEq] at h; subst h
            simp at hb
          · exact h2 a ha
theorem look_mapKeys (g : Nat → OB) : ∀ (ks : List Nat) (k : Nat), Own.look (mapKeys g ks) k = if ks.contains k then some (g k) else none
  | [], k => rfl
  | i :: r, k => by
    simp only [mapKeys, Own.look]
    cases hb : Nat.beq i k with
    | true =>
      have := Nat.eq_of_beq_eq_true hb
      subst this
      simp
    | false =>
      have hn : k ≠ i := fun e => by subst e; simp at hb
      dsimp only
      rw [look_mapKeys g r k]
      simp [hn]
section
variable {own own' : Own} {ρ ρ' : Nat → Option Nat} {fr : Nat → Prop} {w : World} {f : Nat → Nat}
/-- What is needed of a key for what leads there. -/
def KeyTo (own : Own) (ρ : Nat → Option Nat) (own' : Own) (ρ' : Nat → Option Nat) (f : Nat → Nat) (j : Nat) : Prop :=
  ρ' (f j) = ρ j ∧ (∀ mu kl kn e t l, own'.look (f j) = some (.row mu kl kn e t l) → ∃ mu kl kn, own.look j = some (.row mu kl kn e t l)) ∧ ∀ cs, own'.look (f j) = some (.cells cs) → ∃ cs', own.look j = some (.cells cs')
theorem SIs_slice {k i : Nat} {n : Option Nat} {u : Value} (h : SIs own ρ w k i n u) : ∃ a m c, u = .slice a m c := by
  unfold SIs at h
  split at h
  · rcases h.2 with ⟨_, ⟨_, h⟩, _⟩ | ⟨b, C, a, c, _, _, h, _⟩
    · exact ⟨_, _, _, h⟩
    · exact ⟨_, _, _, h⟩
  · exact h.1
  · exact h
theorem renC_is {c : CV} {u : Value} (hk : ∀ j ∈ c.keys, KeyTo own ρ own' ρ' f j) (h : c.is own ρ fr w u) : (renC f c).is own' ρ' fr w u := by
  cases c with
  | v _ x => exact h
  | junk => exact h
  | d _ _ t l => exact h
  | e _ t x off => exact h
  | p k off =>
    obtain ⟨b, h1, h2⟩ := h
    exact ⟨b, by rw [(hk k (by simp [CV.keys])).1]; exact h1, h2⟩
  | ap _ k i m off =>
    obtain ⟨b, h1, h2⟩ := h
    exact ⟨b, by rw [(hk k (by simp [CV.keys])).1]; exact h1, h2⟩
  | fn g caps =>
    obtain ⟨as, h1, h2⟩ := h
    refine ⟨as, h1, ?_⟩
    have hk' : ∀ q ∈ caps, KeyTo own ρ own' ρ' f q.1 := fun q hq => hk q.1 (by simp only [CV.keys, List.mem_map]; exact ⟨q, hq, rfl⟩)
    clear hk h1
    induction caps generalizing as with
    | nil => exact h2
    | cons q r ih =>
      obtain ⟨b, as', e, h3, h4⟩ := h2
      exact ⟨b, as', e, by rw [(hk' q List.mem_cons_self).1]; exact h3, ih _ h4 fun q' hq' => hk' q' (List.mem_cons_of_mem _ hq')⟩
  | s kn k i n =>
    obtain ⟨h1, h2, h2c⟩ := hk k (by simp [CV.keys])
    have h : SIs own ρ w k i n u := h
    show SIs own' ρ' w (f k) i n u
    have hs := SIs_slice h
    unfold SIs
    split
    · rename_i mu kl kn' e t l hl
      obtain ⟨mu2, kl2, kn2, h3⟩ := h2 _ _ _ _ _ _ hl
      unfold SIs at h
      rw [h3] at h
      rw [h1]; exact h
    · rename_i cs hl
      obtain ⟨cs', h3⟩ := h2c _ hl
      unfold SIs at h
      rw [h3] at h
      rw [h1]; exact h
    · exact hs
theorem rencs_is : ∀ {l : List CV} {us : List Value}, (∀ j ∈ l.flatMap CV.keys, KeyTo own ρ own' ρ' f j) → csIs own ρ fr w l us → csIs own' ρ' fr w (l.map (renC f)) us
  | [], _, _, h => h
  | c :: cs, _, hk, ⟨u, us', e, h1, h2⟩ => ⟨u, us', e, renC_is (fun j hj => hk j (by rw [List.flatMap_cons]; exact List.mem_append_left _ hj)) h1, rencs_is (fun j hj => hk j (by rw [List.flatMap_cons]; exact List.mem_append_right _ hj)) h2⟩
theorem renp_is : ∀ {l : List (Bool × List CV)} {us : List Value}, (∀ j ∈ (l.flatMap (·.2)).flatMap CV.keys, KeyTo own ρ own' ρ' f j) → partsIs own ρ fr w l us → partsIs own' ρ' fr w (l.map fun q => (q.1, q.2.map (renC f))) us
  | [], _, _, h => h
  | q :: r, _, hk, ⟨u, us', e, ⟨vs, h1, h1'⟩, h2⟩ => ⟨u, us', e, ⟨vs, rencs_is (fun j hj => hk j (by rw [List.flatMap_cons, List.flatMap_append]; exact List.mem_append_left _ hj)) h1, h1'⟩,
      renp_is (fun j hj => hk j (by rw [List.flatMap_cons, List.flatMap_append]; exact List.mem_append_right _ hj)) h2⟩
theorem renA_is {x : AV} {u : Value} (hk : ∀ j ∈ x.keys, KeyTo own ρ own' ρ' f j) (h : x.is own ρ fr w u) : (renA f x).is own' ρ' fr w u := by
  cases x with
  | one c => exact renC_is (fun j hj => hk j (by simpa [AV.keys, AV.cvs] using hj)) h
  | ag l => obtain ⟨us, e, hu⟩ := h; exact ⟨us, e, rencs_is hk hu⟩
  | tup l => obtain ⟨us, e, hu⟩ := h; exact ⟨us, e, renp_is hk hu⟩
end
theorem newCs_get {As : List Anch} {f : Nat → Nat} {blk : Nat} : ∀ {l : List CV} {o j : Nat} {x : CV}, (newCs As f blk o l)[j]? = some x → ∃ c, l[j]? = some c ∧ x = newC As f blk (o + j) c
  | [], _, _, _, h => by simp [newCs] at h
  | c :: r, o, j, x, h => by
    cases j with
    | zero => simp [newCs] at h; exact ⟨c, rfl, h.symm⟩
    | succ j =>
      obtain ⟨c', h1, h2⟩ := newCs_get (l := r) (o := o + 1) (j := j) (by simpa [newCs] using h)
      exact ⟨c', by simpa using h1, by rw [h2]; congr 1; omega⟩
/-- The blocks of the keys behind. -/
def rhoA (tm : List AV) (own : Own) (As : List Anch) (ρ : Nat → Option Nat) (k : Nat) : Option Nat :=
  match anchK As k with
  | some a => match anchKey tm own a with | some j => ρ j | none => none
  | none => ρ k
section
variable {w0 : World} {fr0 : Nat → Prop} {ρ : Nat → Option Nat} {fr : Nat → Prop} {a : Act} {w : World}
/-- **A state in normal form** says what is so, too. -/
theorem rep_canA {W : List Nat} {As : List Anch} {ks dd : List Nat} {nx : Nat} {st : Stt} (hok : canAok W As ks dd nx st = true) (r : RepS w0 fr0 ρ fr st a w) : RepS w0 fr0 (rhoA (junks W st.tm) st.own As ρ) fr (canA W As ks dd nx st) a w := by
  unfold canAok at hok
  simp only [Bool.and_eq_true] at hok
  obtain ⟨⟨⟨hK, hJ⟩, hA, hT⟩, hC, hT2, hC2⟩ := hok
  rw [List.all_eq_true] at hA hT hC hT2 hC2
  -- the anchor of a key is the one that is found by its key
  have one : ∀ b ∈ As, anchK As b.K = some b := fun b hb => by
    obtain ⟨c, hc⟩ := anchK_mem hb
    obtain ⟨c1, c2⟩ := anchK_some hc
    rw [hc, distinct_map hK c1 hb c2]
  have lookN : ∀ k ob, (canA W As ks dd nx st).own.look k = some ob → ks.contains k = true ∧ ob = newOB (junks W st.tm) st.own As dd k := fun k ob h => by
    have h : Own.look (mapKeys (newOB (junks W st.tm) st.own As dd) ks) k = some ob := h
    rw [look_mapKeys] at h
    split at h
    · rename_i hk; exact ⟨hk, by simpa using h.symm⟩
    · cases h
  have keyTo : ∀ j, keyOk (junks W st.tm) st.own As j = true → KeyTo st.own ρ (canA W As ks dd nx st).own (rhoA (junks W st.tm) st.own As ρ) (renK (junks W st.tm) st.own As) j := by
    intro j hj
    rcases renK_cases (junks W st.tm) st.own As j with ⟨b, h1, h2, h3⟩ | ⟨h1, h2⟩
    · refine ⟨by rw [h3]; unfold rhoA; rw [one b h1]; dsimp only; rw [h2], fun mu kl kn e t l hl => ?_, fun cs hl => ?_⟩
      · rw [h3] at hl
        obtain ⟨_, hl⟩ := lookN _ _ hl
        unfold newOB at hl
        rw [one b h1] at hl
        dsimp only at hl
        rw [h2] at hl
        dsimp only at hl
        split at hl
        · rename_i h4
          cases hl
          exact ⟨_, _, _, h4⟩
        · cases hl
      · rw [h3] at hl
        obtain ⟨_, hl⟩ := lookN _ _ hl
        unfold newOB at hl
        rw [one b h1] at hl
        dsimp only at hl
        rw [h2] at hl
        dsimp only at hl
        split at hl <;> cases hl
    · have hn : anchK As j = none := by
        unfold keyOk at hj
        split at hj
        · assumption
        · rw [List.any_eq_true] at hj
          obtain ⟨b, hb, hb2⟩ := hj
          split at hb2
          · rename_i i hi
            have := Nat.eq_of_beq_eq_true hb2
            subst this
            exact absurd hi (h2 b hb)
          · cases hb2
      refine ⟨by rw [h1]; unfold rhoA; rw [hn], fun mu kl kn e t l hl => ?_, fun cs hl => ?_⟩
      · rw [h1] at hl
        obtain ⟨_, hl⟩ := lookN _ _ hl
        unfold newOB at hl
        rw [hn] at hl
        dsimp only at hl
        split at hl
        · cases hl
        · split at hl
          · cases hl
          · rename_i h4; cases hl; exact ⟨_, _, _, h4⟩
          · cases hl
      · rw [h1] at hl
        obtain ⟨_, hl⟩ := lookN _ _ hl
        unfold newOB at hl
        rw [hn] at hl
        dsimp only at hl
        split at hl
        · cases hl
        · split at hl
          · rename_i h4; exact ⟨_, h4⟩
          · cases hl
          · cases hl
  have live : ∀ k ob, (canA W As ks dd nx st).own.look k = some ob → ob.live → (∃ b j ob', anchK As k = some b ∧ anchKey (junks W st.tm) st.own b = some j ∧ st.own.look j = some ob' ∧ ob'.live) ∨ (∃ b, anchK As k = some b ∧ anchKey (junks W st.tm) st.own b = none) ∨ (anchK As k = none ∧ dd.contains k = false ∧ ∃ ob', st.own.look k = some ob' ∧ ob'.live) := by
    intro k ob h hl
    obtain ⟨_, h⟩ := lookN _ _ h
    subst h
    unfold newOB at hl
    split at hl
    · rename_i b hb
      split at hl
      · rename_i j hj
        split at hl
        · rename_i h4; exact .inl ⟨b, j, _, hb, hj, h4, trivial⟩
        · exact hl.elim
      · rename_i hj; exact .inr (.inl ⟨b, hb, hj⟩)
    · rename_i hb
      split at hl
      · exact hl.elim
      · rename_i hd
        split at hl
        · rename_i h4; exact .inr (.inr ⟨hb, hd, _, h4, trivial⟩)
        · rename_i h4; exact .inr (.inr ⟨hb, hd, _, h4, trivial⟩)
        · exact hl.elim
  have okc : ∀ k ob, (canA W As ks dd nx st).own.look k = some ob → ∀ j ∈ ob.cks, has (canA W As ks dd nx st).own j = true := fun k ob h j hj => by
    have h1 := hC2 _ (mem_look h)
    rw [List.all_eq_true] at h1
    have h2 := h1 j hj
    rw [has_look]
    exact ⟨_, by show Own.look (mapKeys (newOB (junks W st.tm) st.own As dd) ks) j = _; rw [look_mapKeys, if_pos h2]⟩
  obtain ⟨j1, j2⟩ := junks_get W st.tm
  refine { ext := r.ext, bas := r.bas, frlt := r.frlt, frnew := r.frnew, frold := r.frold, cells := ?_, rows := ?_, inj := ?_, okC := ?_, len := ?_, tmp := ?_, df := r.df, okT := ?_ }
  · intro k cs hk
    obtain ⟨hks, hk2⟩ := lookN _ _ hk
    have hn : anchK As k = none ∧ dd.contains k = false ∧ ∃ l, st.own.look k = some (.cells l) ∧ cs = newCs As (renK (junks W st.tm) st.own As) k 0 l := by
      unfold newOB at hk2
      split at hk2
      · split at hk2
        · split at hk2 <;> cases hk2
        · cases hk2
      · rename_i hb
        split at hk2
        · cases hk2
        · rename_i hd
          split at hk2
          · rename_i l h4; cases hk2; exact ⟨hb, hd, l, h4, rfl⟩
          · cases hk2
          · cases hk2
    obtain ⟨hn, hd, l, hl, rfl⟩ := hn
    obtain ⟨b, h1, h2, h3, h4, h5, h6⟩ := r.cells k l hl
    refine ⟨b, by unfold rhoA; rw [hn]; exact h1, h2, h3, h4, h5, fun j x hx => ?_⟩
    obtain ⟨c, hc, rfl⟩ := newCs_get hx
    obtain ⟨u, hu, hcu⟩ := h6 j c hc
    refine ⟨u, hu, ?_⟩
    rw [Nat.zero_add]
    have hC1 := hC k (by simpa using hks)
    rw [hn, hd, hl] at hC1
    dsimp only at hC1
    rw [List.all_eq_true] at hC1
    have hren : (renC (renK (junks W st.tm) st.own As) c).is (canA W As ks dd nx st).own (rhoA (junks W st.tm) st.own As ρ) fr w u := renC_is (fun i hi => keyTo i (hC1 i (List.mem_flatMap.2 ⟨c, List.mem_of_getElem? hc, hi⟩))) hcu
    unfold newC
    split
    · rename_i hnil
      split
      · rename_i b' hb'
        obtain ⟨b1, b0, b2, b3⟩ := anchAt_some hb'
        have hu0 : u = .slice none 0 0 := by
          unfold isNil at hnil
          split at hnil
          · exact hcu
          · cases hnil
        subst hu0
        have hkey : anchKey (junks W st.tm) st.own b' = none := by
          unfold anchKey
          rw [b0]
          dsimp only
          rw [b2, hl]
          dsimp only
          rw [b3, hc]
          unfold isNil at hnil
          split at hnil
          · rfl
          · cases hnil
        show SIs _ _ _ _ _ _ _
        unfold SIs
        split
        · rename_i mu kl kn e t l' hl'
          obtain ⟨_, hl'⟩ := lookN _ _ hl'
          unfold newOB at hl'
          rw [one b' b1] at hl'
          dsimp only at hl'
          rw [hkey] at hl'
          cases hl'
          refine ⟨by simp [cutLen], .inl ⟨by unfold rhoA; rw [one b' b1]; dsimp only; rw [hkey], ⟨none, rfl⟩, by simp [cutLen]⟩⟩
        · rename_i cs hl'
          obtain ⟨_, hl'⟩ := lookN _ _ hl'
          unfold newOB at hl'
          rw [one b' b1] at hl'
          dsimp only at hl'
          rw [hkey] at hl'
          cases hl'
        · exact ⟨_, _, _, rfl⟩
      · exact hren
    · exact hren
  · intro k mu kl kn e t l hk
    obtain ⟨hks, hk2⟩ := lookN _ _ hk
    unfold newOB at hk2
    unfold rhoA
    split at hk2
    · rename_i b hb
      split at hk2
      · split at hk2
        · rename_i h4; cases hk2; exact r.rows _ _ _ _ _ _ _ h4
        · cases hk2
      · cases hk2; exact .inl ⟨rfl, rfl⟩
    · rename_i hb
      split at hk2
      · cases hk2
      · split at hk2
        · cases hk2
        · rename_i h4; cases hk2; exact r.rows _ _ _ _ _ _ _ h4
        · cases hk2
  · intro k k' ob ob' b hk hk' hl hl' e e'
    unfold rhoA at e e'
    rcases live k ob hk hl with ⟨x, j, o, h1, h2, h3, h4⟩ | ⟨x, h1, h2⟩ | ⟨h1, h2, o, h3, h4⟩
    · rw [h1] at e; dsimp only at e; rw [h2] at e; dsimp only at e
      rcases live k' ob' hk' hl' with ⟨x', j', o', h1', h2', h3', h4'⟩ | ⟨x', h1', h2'⟩ | ⟨h1', h2', o', h3', h4'⟩
      · rw [h1'] at e'; dsimp only at e'; rw [h2'] at e'; dsimp only at e'
        have := r.inj j j' o o' b h3 h3' h4 h4' e e'
        subst this
        obtain ⟨m1, m2⟩ := anchK_some h1
        obtain ⟨m3, m4⟩ := anchK_some h1'
        rw [← m2, ← m4, distinct_fm hJ m1 m3 h2 h2']
      · rw [h1'] at e'; dsimp only at e'; rw [h2'] at e'; cases e'
      · rw [h1'] at e'; dsimp only at e'
        have := r.inj j k' o o' b h3 h3' h4 h4' e e'
        subst this
        have := hA x (anchK_some h1).1
        rw [h2] at this
        dsimp only at this
        rw [h1', h2'] at this
        cases this
    · rw [h1] at e; dsimp only at e; rw [h2] at e; cases e
    · rw [h1] at e; dsimp only at e
      rcases live k' ob' hk' hl' with ⟨x', j', o', h1', h2', h3', h4'⟩ | ⟨x', h1', h2'⟩ | ⟨h1', h2', o', h3', h4'⟩
      · rw [h1'] at e'; dsimp only at e'; rw [h2'] at e'; dsimp only at e'
        have := r.inj k j' o o' b h3 h3' h4 h4' e e'
        subst this
        have := hA x' (anchK_some h1').1
        rw [h2'] at this
        dsimp only at this
        rw [h1, h2] at this
        cases this
      · rw [h1'] at e'; dsimp only at e'; rw [h2'] at e'; cases e'
      · rw [h1'] at e'; dsimp only at e'
        exact r.inj k k' o o' b h3 h3' h4 h4' e e'
  · intro k cs hk j hj
    exact okc k _ hk j hj
  · rw [r.len]
    show _ = (newTs _ _ _ (junks W st.tm)).length
    rw [newTs_length]; exact j1.symm
  · intro t x hx
    have hx : (newTs As (renK (junks W st.tm) st.own As) 0 (junks W st.tm))[t]? = some x := hx
    obtain ⟨y, hy, rfl⟩ := newTs_get hx
    rw [Nat.zero_add]
    have hlt : t < st.tm.length := by rw [← j1]; exact (List.getElem?_eq_some_iff.1 hy).1
    rcases j2 t y hy with e | h
    · subst e
      obtain ⟨u, hu, _⟩ := r.tmp t _ (List.getElem?_eq_getElem hlt)
      exact ⟨u, hu, trivial⟩
    · obtain ⟨u, hu, hxu⟩ := r.tmp t y h
      have h1 := hT y (List.mem_of_getElem? hy)
      rw [List.all_eq_true] at h1
      have hren : (renA (renK (junks W st.tm) st.own As) y).is (canA W As ks dd nx st).own (rhoA (junks W st.tm) st.own As ρ) fr w u := renA_is (fun j hj => keyTo j (h1 j hj)) hxu
      refine ⟨u, hu, ?_⟩
      unfold newT
      split
      · rename_i c
        split
        · rename_i hnil
          split
          · rename_i b' hb'
            obtain ⟨b1, b2⟩ := anchTm_some hb'
            have hu0 : u = .slice none 0 0 := by
              unfold isNil at hnil
              split at hnil
              · exact hxu
              · cases hnil
            subst hu0
            have hkey : anchKey (junks W st.tm) st.own b' = none := by
              unfold anchKey
              rw [b2]
              dsimp only
              rw [hy]
              unfold isNil at hnil
              split at hnil
              · rfl
              · cases hnil
            split
            · exact ⟨none, 0, rfl, Nat.le_refl _, by unfold maxLen; omega, fun h => absurd rfl h⟩
            · show SIs _ _ _ _ _ _ _
              unfold SIs
              split
              · rename_i mu kl kn e t l' hl'
                obtain ⟨_, hl'⟩ := lookN _ _ hl'
                unfold newOB at hl'
                rw [one b' b1] at hl'
                dsimp only at hl'
                rw [hkey] at hl'
                cases hl'
                refine ⟨by simp [cutLen], .inl ⟨by unfold rhoA; rw [one b' b1]; dsimp only; rw [hkey], ⟨none, rfl⟩, by simp [cutLen]⟩⟩
              · rename_i cs hl'
                obtain ⟨_, hl'⟩ := lookN _ _ hl'
                unfold newOB at hl'
                rw [one b' b1] at hl'
                dsimp only at hl'
                rw [hkey] at hl'
                cases hl'
              · exact ⟨_, _, _, rfl⟩
          · exact hren
        · exact hren
      · exact hren
  · intro x hx j hj
    have h1 := hT2 x hx
    rw [List.all_eq_true] at h1
    rw [has_look]
    exact ⟨_, by show Own.look (mapKeys (newOB (junks W st.tm) st.own As dd) ks) j = _; rw [look_mapKeys, if_pos (h1 j hj)]⟩
/-- The blocks that were there at the loop's entry stay. -/
def staysA (As : List Anch) (ks : List Nat) (own0 : Own) : Bool := own0.all fun q => ks.contains q.1 && (match anchK As q.1 with | none => true | some _ => false)
theorem grow_canA {W : List Nat} {As : List Anch} {ks dd : List Nat} {nx : Nat} {own0 : Own} {st : Stt} {ρ0 : Nat → Option Nat} {fra : Nat → Prop} {wa : World} (hks : staysA As ks own0 = true) (g : Grow own0 ρ0 fra wa st.own ρ fr w) : Grow own0 ρ0 fra wa (canA W As ks dd nx st).own (rhoA (junks W st.tm) st.own As ρ) fr w where
  key := fun k ob hk => by
    obtain ⟨h1, ob', h2, h3⟩ := g.key k ob hk
    unfold staysA at hks
    rw [List.all_eq_true] at hks
    have := hks _ (mem_look hk)
    rw [Bool.and_eq_true] at this
    obtain ⟨c1, c2⟩ := this
    have hn : anchK As k = none := by
      dsimp only at c2
      split at c2
      · assumption
      · cases c2
    refine ⟨by unfold rhoA; rw [hn]; exact h1, newOB (junks W st.tm) st.own As dd k, by show Own.look (mapKeys (newOB (junks W st.tm) st.own As dd) ks) k = _; rw [look_mapKeys, if_pos c1], h3.trans ?_⟩
    unfold newOB
    rw [hn]
    dsimp only
    split
    · exact .inl rfl
    · rw [h2]
      cases ob' with
      | cells l => exact .inr (.inl ⟨_, _, rfl, rfl⟩)
      | row mu kl kn e t l => exact .inr (.inr ⟨_, _, _, _, _, _, _, _, _, _, rfl, rfl, rfl⟩)
      | dead => exact .inl rfl
  frz := g.frz
  frc := g.frc
  blk := g.blk
end
/-- A round's end, in normal form. -/
def finA (W : List Nat) (As : List Anch) (ks dd : List Nat) (nx : Nat) (r : Ex × Stt × Dec) : Tr (Ex × Stt) :=
  match canAok W As ks dd nx r.2.1 with
  | true => .ret (r.1, canA W As ks dd nx r.2.1)
  | false => .bad 131
def exAt (kinds : List Ex) (k : Nat) : Ex := match kinds[k]? with | some e => e | none => .ret
/-- Another round, or a way out: which, and with what. -/
def outA {V : Type} (St : V → Stt) (kinds : List Ex) (x : V ⊕ (Nat × V)) : Tr (Ex × Stt) :=
  match x with
  | .inl s => .ret (.normal, St s)
  | .inr t => .ret (exAt kinds t.1, St t.2)
/-- The ways out that are allowed for. -/
def pickA {V : Type} (St : V → Stt) (t : Nat × V) : List (Nat × Ex) → Tr (Ex × Stt)
  | [] => .bad 902
  | (n, e) :: r => .br (Nat.beq t.1 n) (.ret (e, St t.2)) (pickA St t r)
def exEq : Ex → Ex → Bool
  | .normal, .normal => true
  | .ret, .ret => true
  | .exit a, .exit b => decide (a = b)
  | _, _ => false
theorem exEq_ok {a b : Ex} (h : exEq a b = true) : a = b := by
  unfold exEq at h
  split at h
  · rfl
  · rfl
  · rw [of_decide_eq_true h]
  · cases h
theorem pickA_val {V : Type} {St : V → Stt} {t : Nat × V} {kinds : List Ex} : ∀ {l : List (Nat × Ex)} {r : Ex × Stt}, (∀ q ∈ l, exAt kinds q.1 = q.2) → (pickA St t l).val = some r → r = (exAt kinds t.1, St t.2)
  | [], _, _, h => by cases h
  | (n, e) :: l, r, hq, h => by
    simp only [pickA, Tr.val] at h
    cases hb : Nat.beq t.1 n with
    | true =>
      rw [hb] at h
      have h : some (e, St t.2) = some r := h
      simp only [Option.some.injEq] at h
      subst h
      rw [Nat.eq_of_beq_eq_true hb, hq (n, e) List.mem_cons_self]
    | false =>
      rw [hb] at h
      exact pickA_val (fun q hq' => hq q (List.mem_cons_of_mem _ hq')) h
/-- **A loop's rounds**, whatever they append. -/
theorem loop_roundsA {P : Program} {call : CallT} {icall : ICallT} {On : FuncId → Bool} (hm : P.follows .mixedOrders = true) (hc : CallOK P call) (hic : IcOK P icall) {body c : Code} {L : Loops} (hL : LoopOK P body L) {at_ : List Nat} (hat : codeAt body at_.reverse = some (.loop c))
    {V : Type} {St : V → Stt} {kinds : List Ex} {step : V → Tr (V ⊕ (Nat × V))} {W : List Nat} {As : List Anch} {ks dd : List Nat} {nx n : Nat} (hne : ∀ k, exAt kinds k ≠ .normal)
    (hstep : ∀ s, (evalC P call icall On L n (0 :: at_) c (St s) []).bind (finA W As ks dd nx) = (step s).bind (outA St kinds)) :
    ∀ fuel s t, loopN step fuel s = some t → ∀ (own0 : Own) ρ0 fra wa, staysA As ks own0 = true → ∀ w0 fr0 ρ fr a w (Q : Exit → Act → World → Prop), Grow own0 ρ0 fra wa (St s).own ρ fr w → RepS w0 fr0 ρ fr (St s) a w → (∀ ρ' fr' a' w', RepS w0 fr0 ρ' fr' (St t.2) a' w' → Grow own0 ρ0 fra wa (St t.2).own ρ' fr' w' → Q (exAt kinds t.1).toExit a' w') → LoopWp P c Q a w
  | 0, s, t, h => by cases h
  | fuel + 1, s, t, h => by
    intro own0 ρ0 fra wa hst w0 fr0 ρ fr a w Q g r hQ
    simp only [loopN] at h
    cases hv : (step s).val with
    | none => rw [hv] at h; cases h
    | some x =>
      have h1 := congrArg Tr.val (hstep s)
      rw [Tr.val_bind, Tr.val_bind, hv, Option.bind_some] at h1
      have h2 : ∃ y, (outA St kinds x).val = some y := by cases x <;> exact ⟨_, rfl⟩
      obtain ⟨y, hy⟩ := h2
      rw [hy] at h1
      obtain ⟨⟨ex, st', dec'⟩, h3, h4⟩ := Option.bind_eq_some_iff.1 h1
      unfold finA at h4
      split at h4
      · rename_i hok
        have h4 := ret_some h4
        have nodec : Dec.Ok [] (St s).tm := fun d b hl => by simp [Dec.look] at hl
        refine loopWp_round ((code_sound hm hc hic hL n).1 (codeAt_child hat 0 (by simp [codeAt])) h3 nodec r fun _ ρ' fr' a' w' r' g' => ?_)
        have r2 := rep_canA hok r'
        have g2 := grow_canA (W := W) (dd := dd) (nx := nx) hst (g.trans g')
        cases x with
        | inl s' =>
          rw [hv] at h
          have hy' := ret_some hy
          rw [← hy', Prod.mk.injEq] at h4
          obtain ⟨hex, hst'⟩ := h4
          simp only at hex hst'
          rw [hex]
          rw [hst'] at r2 g2
          exact loop_roundsA hm hc hic hL hat hne hstep fuel s' t h own0 ρ0 fra wa hst w0 fr0 _ fr' a' w' Q g2 r2 hQ
        | inr t' =>
          rw [hv] at h
          simp only [Option.some.injEq] at h
          subst h
          have hy' := ret_some hy
          rw [← hy', Prod.mk.injEq] at h4
          obtain ⟨hex, hst'⟩ := h4
          simp only at hex hst'
          rw [hst'] at r2 g2
          have hn2 := hne t'.1
          have hQ' := hQ _ fr' a' w' r2 g2
          rw [hex]
          cases he : exAt kinds t'.1 with
          | normal => exact absurd he hn2
          | ret => rw [he] at hQ'; exact hQ'
          | exit id => rw [he] at hQ'; exact hQ'
      · cases h4
/-- A loop's sum. -/
def sumM {U V : Type} (read : Stt → Option (U × V)) (cond : U → V → Bool) (St : U → V → Stt) (g : U → V → Nat × V) (allow : List (Nat × Ex)) (st : Stt) : Option (Tr (Ex × Stt)) :=
  match read st with
  | some (u, s) => some (.br (cond u s) (pickA (St u) (g u s) allow) (.bad 901))
  | none => none
/-- What a loop's sum is: the state in normal form, told apart into letters; a condition; the ways out. -/
theorem loop_sumA {P : Program} {S : Sums} {On : FuncId → Bool} {L : FuncId → Loops} (hm : P.follows .mixedOrders = true) (hS : SumOK P S) (hL : LoopsOK P L) (d : Nat) {f : FuncId} {p : List Nat} {body c : Code}
    (hbody : ∃ fn, P.funcs[f]? = some fn ∧ fn.body = some body) (hat : codeAt body p.reverse = some (.loop c))
    {U V : Type} {St : U → V → Stt} {kinds : List Ex} {allow : List (Nat × Ex)} {step : U → V → Tr (V ⊕ (Nat × V))} {W : List Nat} {As : List Anch} {ks dd : List Nat} {nx n : Nat}
    (hne : kinds.all (fun e => match e with | .normal => false | _ => true) = true) (hal : allow.all (fun q => exEq (exAt kinds q.1) q.2) = true)
    (hstep : ∀ u s, (evalC P (evalB P S On L d).1 (evalB P S On L d).2 On (L f) n (0 :: p) c (St u s) []).bind (finA W As ks dd nx) = (step u s).bind (outA (St u) kinds))
    {g : U → V → Nat × V} {cond : U → V → Bool} {fuel : U → V → Nat} (hg : ∀ u s, cond u s = true → loopN (step u) (fuel u s) s = some (g u s))
    {read : Stt → Option (U × V)} (hread : ∀ st u s, read st = some (u, s) → canAok W As ks dd nx st = true ∧ staysA As ks st.own = true ∧ canA W As ks dd nx st = St u s) :
    LoopsOK P (addL f p (sumM read cond St g allow) L) := by
  refine addL_ok hL (fun e => by subst e; have h7 : codeAt body [7] = some (.loop c) := hat; rw [codeAt_7] at h7; cases h7) fun fn body' c' hf hb hc st t ht r hr w0 fr0 ρ fr a w Q rep hQ => ?_
  obtain ⟨fn', hf', hb'⟩ := hbody
  rw [hf'] at hf
  cases hf
  rw [hb'] at hb
  cases hb
  rw [hat] at hc
  cases hc
  unfold sumM at ht
  split at ht
  · rename_i u s hq
    simp only [Option.some.injEq] at ht
    subst ht
    obtain ⟨hc2, hr⟩ := br_bad hr
    obtain ⟨h1, h2, h3⟩ := hread st u s hq
    rw [List.all_eq_true] at hal hne
    have he := pickA_val (kinds := kinds) (fun q hq => exEq_ok (hal q hq)) hr
    subst he
    have r2 := rep_canA h1 rep
    have g2 := grow_canA (W := W) (dd := dd) (nx := nx) h2 (Grow.refl st.own ρ fr w)
    rw [h3] at r2 g2
    obtain ⟨hcc, hic⟩ := evalB_sound hm hS hL d (On := On)
    refine loop_roundsA hm hcc hic (hL.1 f _ body hf' hb') hat ?_ (hstep u) _ s _ (hg u s hc2) st.own ρ fr w h2 w0 fr0 _ fr a w Q g2 r2 fun ρ' fr' a' w' r' g' => hQ ρ' fr' a' w' r' g'
    intro k
    unfold exAt
    split
    · rename_i e he
      intro h
      have := hne e (List.mem_of_getElem? he)
      rw [h] at this
      cases this
    · exact fun h => by cases h
  · cases ht
end Go.Proofs.Ytacgchandefjgaa
