/-
  The evaluator is right: functions. No program is named here.
-/
import Derived.Test.YtacgchandefjgaaFvT
namespace Go.Proofs.Ytacgchandefjgaa
open Go
section
variable {P : Program} {w0 : World} {fr0 : Nat → Prop} {ρ : Nat → Option Nat} {fr : Nat → Prop} {own : Own} {w : World}
theorem norm_is : ∀ {t : Ty} {cs ys r : List CV}, t.norm cs = (ys, r) → ∀ {us : List Value}, csIs own ρ fr w cs us → ∃ us1 us2, us = us1 ++ us2 ∧ csIs own ρ fr w ys us1 ∧ csIs own ρ fr w r us2 ∧ ys.flatMap CV.keys ++ r.flatMap CV.keys = cs.flatMap CV.keys := by
  have one : ∀ {c : CV} {cs ys r : List CV}, ([c], cs) = (ys, r) → ∀ {us : List Value}, csIs own ρ fr w (c :: cs) us → ∃ us1 us2, us = us1 ++ us2 ∧ csIs own ρ fr w ys us1 ∧ csIs own ρ fr w r us2 ∧ ys.flatMap CV.keys ++ r.flatMap CV.keys = (c :: cs).flatMap CV.keys := fun h us hu => by
    simp only [Prod.mk.injEq] at h
    obtain ⟨rfl, rfl⟩ := h
    obtain ⟨u, us', rfl, h1, h2⟩ := hu
    exact ⟨[u], us', rfl, ⟨u, [], rfl, h1, rfl⟩, h2, by simp⟩
  have nil : ∀ {ys r : List CV}, (([] : List CV), ([] : List CV)) = (ys, r) → ∀ {us : List Value}, csIs own ρ fr w [] us → ∃ us1 us2, us = us1 ++ us2 ∧ csIs own ρ fr w ys us1 ∧ csIs own ρ fr w r us2 ∧ ys.flatMap CV.keys ++ r.flatMap CV.keys = ([] : List CV).flatMap CV.keys := fun h us hu => by
    simp only [Prod.mk.injEq] at h
    obtain ⟨rfl, rfl⟩ := h
    exact ⟨[], us, rfl, rfl, hu, rfl⟩
  intro t
  induction t with
  | prod a b iha ihb =>
    intro cs ys r h us hu
    simp only [Ty.norm] at h
    cases ha : a.norm cs with
    | mk x r1 =>
      rw [ha] at h
      cases hb : b.norm r1 with
      | mk y r2 =>
        simp only [hb, Prod.mk.injEq] at h
        obtain ⟨rfl, rfl⟩ := h
        obtain ⟨u1, u2, rfl, h1, h2, h3⟩ := iha ha hu
        obtain ⟨u3, u4, rfl, h4, h5, h6⟩ := ihb hb h2
        exact ⟨u1 ++ u3, u4, by simp, csIs_append h1 h4, h5, by rw [← h3, ← h6]; simp [List.flatMap_append]⟩
  | int k => intro cs ys r h us hu; cases cs with | nil => exact nil h hu | cons c cs => exact one h hu
  | bool => intro cs ys r h us hu; cases cs with | nil => exact nil h hu | cons c cs => exact one h hu
  | str => intro cs ys r h us hu; cases cs with | nil => exact nil h hu | cons c cs => exact one h hu
  | list t _ =>
    intro cs ys r h us hu
    cases cs with
    | nil => exact nil h hu
    | cons c cs =>
      cases c with
      | v kn y =>
        cases y with
        | slice a n c =>
          cases a with
          | some a => exact one h hu
          | none =>
            cases n with
            | succ n => exact one h hu
            | zero =>
              cases c with
              | succ c => exact one h hu
              | zero =>
                simp only [Ty.norm, Prod.mk.injEq] at h
                obtain ⟨rfl, rfl⟩ := h
                obtain ⟨u, us', rfl, h1, h2⟩ := hu
                have h1 : u = .slice none 0 0 := h1
                subst h1
                exact ⟨[_], us', rfl, ⟨_, [], rfl, ⟨none, 0, rfl, Nat.le_refl _, by simp [maxLen], fun h => absurd rfl h⟩, rfl⟩, h2, by simp [CV.keys]⟩
        | _ => exact one h hu
      | _ => exact one h hu
theorem normA_is {t : TypeId} {x : AV} {u : Value} (hx : x.is own ρ fr w u) : (normA P t x).is own ρ fr w u ∧ (normA P t x).keys = x.keys := by
  unfold normA
  split
  · rename_i ty c _
    split
    · rename_i c' h
      obtain ⟨u1, u2, e, h1, h2, h3⟩ := norm_is h (us := [u]) ⟨u, [], rfl, hx, rfl⟩
      cases h2
      obtain ⟨u', us', rfl, h4, h5⟩ := h1
      cases h5
      simp at e
      subst e
      exact ⟨h4, by simpa [AV.keys, AV.cvs] using h3⟩
    · exact ⟨hx, rfl⟩
  · rename_i ty l _
    split
    · rename_i l' h
      obtain ⟨us, e, hu⟩ := hx
      obtain ⟨u1, u2, rfl, h1, h2, h3⟩ := norm_is h hu
      cases h2
      refine ⟨⟨u1, by simpa using e, h1⟩, by simpa [AV.keys, AV.cvs] using h3⟩
    · exact ⟨hx, rfl⟩
  · exact ⟨hx, rfl⟩
theorem normAll_is : ∀ {ts : List TypeId} {xs : List AV} {us : List Value}, asIs own ρ fr w xs us → asIs own ρ fr w (normAll P ts xs) us ∧ (normAll P ts xs).flatMap AV.keys = xs.flatMap AV.keys
  | [], xs, _, h => by cases xs <;> exact ⟨h, rfl⟩
  | _ :: _, [], _, h => ⟨h, rfl⟩
  | t :: ts, x :: xs, _, ⟨u, us', e, h1, h2⟩ => by
    obtain ⟨a1, a2⟩ := normA_is (P := P) (t := t) h1
    obtain ⟨b1, b2⟩ := normAll_is (ts := ts) h2
    exact ⟨⟨u, us', e, a1, b1⟩, by simp only [normAll, List.flatMap_cons, a2, b2]⟩
theorem asIs_get : ∀ {xs : List AV} {us : List Value}, asIs own ρ fr w xs us → us.length = xs.length ∧ ∀ (j : Nat) x, xs[j]? = some x → ∃ u, us[j]? = some u ∧ x.is own ρ fr w u
  | [], _, h => by cases h; simp
  | x :: xs, _, ⟨u, us', e, h1, h2⟩ => by
    subst e
    obtain ⟨h3, h4⟩ := asIs_get h2
    refine ⟨by simp [h3], fun j y hj => ?_⟩
    cases j with
    | zero => simp at hj; subst hj; exact ⟨u, by simp, h1⟩
    | succ j => simpa using h4 j y (by simpa using hj)
/-- The state at a function's beginning. -/
theorem rep_enter (m : RepM w0 fr0 ρ fr own w) {args : List AV} {us : List Value} (h : asIs own ρ fr w args us) (hk : okKeys own (args.flatMap AV.keys)) (n k nx : Nat) (hn : n = k - args.length) :
    RepS w0 fr0 ρ fr ⟨args ++ List.replicate n undefA, own, nx⟩ { tmps := us.toArray ++ Array.replicate (k - us.toArray.size) undef, defers := [] } w := by
  obtain ⟨h1, h2⟩ := asIs_get h
  subst hn
  refine { m with len := ?_, tmp := ?_, df := rfl, okT := ?_ }
  · simp [h1]
  · intro t x hx
    rw [List.getElem?_append] at hx
    rw [Array.getElem?_append]
    simp only [List.size_toArray, h1]
    split at hx
    · rename_i hlt
      rw [if_pos hlt]
      simpa using h2 t x hx
    · rename_i hlt
      rw [if_neg hlt]
      rw [List.getElem?_replicate] at hx
      split at hx
      · rename_i hlt2
        simp only [Option.some.injEq] at hx; subst hx
        exact ⟨undef, by simp [hlt2], rfl⟩
      · cases hx
  · intro x hx
    rcases List.mem_append.1 hx with hx | hx
    · exact fun j hj => hk j (List.mem_flatMap.2 ⟨x, hx, hj⟩)
    · rw [(List.mem_replicate.1 hx).2]; exact okKeys_nil rfl
/-- What a result variable holds at the end. -/
def resVal (a : Act) : ResultVar → Sem Value
  | .tmp t => Pure.pure (a.tmps.getD t undef)
  | .cell x t => do loadVar t (← asAddr (a.tmps.getD x undef))
theorem results_eq (fn : Func) (a : Act) : results fn a.tmps = (do let vs ← fn.results.mapM (resVal a); pure (if h : vs.size = 1 then vs[0] else .tuple vs)) := by
  unfold results
  congr 1
theorem resAVs_run {st : Stt} {a : Act} (r : RepS w0 fr0 ρ fr st a w) : ∀ {rs : List ResultVar} {l : List AV}, resAVs P st rs = some l → ∃ us, (rs.mapM (resVal a)).run P w = .ok us w ∧ asIs st.own ρ fr w l us ∧ okKeys st.own (l.flatMap AV.keys)
  | [], l, h => by simp only [resAVs, Option.some.injEq] at h; subst h; exact ⟨[], rfl, rfl, okKeys_nil rfl⟩
  | .tmp t :: rs, l, h => by
    simp only [resAVs] at h
    split at h
    · rename_i l' hl'
      simp only [Option.some.injEq] at h; subst h
      obtain ⟨us, h1, h2, h3⟩ := resAVs_run r hl'
      refine ⟨a.tmps.getD t undef :: us, ?_, ⟨_, us, rfl, r.eval (.tmp t), h2⟩, ?_⟩
      · simp only [List.mapM_cons, resVal, Sem.run_bind, Sem.run_pure, Result.andThen_ok, h1]
      · rw [List.flatMap_cons]
        intro k hk
        rcases List.mem_append.1 hk with hk | hk
        · exact opd_ok r.okT (.tmp t) k hk
        · exact h3 k hk
    · cases h
  | .cell t ty :: rs, l, h => by
    simp only [resAVs] at h
    split at h
    · rename_i k off hp
      have hev := r.eval (.tmp t)
      rw [hp] at hev
      obtain ⟨b, hb, hu⟩ := hev
      have hu : a.tmps.getD t undef = .pointer (some ⟨b, off, none⟩) := hu
      have go : ∀ {cs : List CV} {ag : Bool} {n : Nat} {x : AV} {l' : List AV}, st.own.look k = some (.cells cs) → aggSize P ty = some (ag, n) → resAVs P st rs = some l' → (loadCs ag n off cs).val = some (x, []) → okKeys st.own x.keys →
          ∃ us, ((ResultVar.cell t ty :: rs).mapM (resVal a)).run P w = .ok us w ∧ asIs st.own ρ fr w (x :: l') us ∧ okKeys st.own ((x :: l').flatMap AV.keys) := fun hk ht hl' hld hxk => by
        obtain ⟨b', h1, h2, h3, h4, h5, h6⟩ := r.cells k _ hk
        rw [hb] at h1; cases h1
        obtain ⟨_, u, h7, h8⟩ := loadCs_run (P := P) (base := 0) ht hld (fun j c hj => by rw [Nat.zero_add]; exact h6 j c hj)
        rw [Nat.zero_add] at h7
        obtain ⟨us, h9, h10, h11⟩ := resAVs_run r hl'
        refine ⟨u :: us, ?_, ⟨u, us, rfl, h8, h10⟩, ?_⟩
        · simp only [List.mapM_cons, resVal, Sem.run_bind, hu, asAddr, Sem.run_pure, Result.andThen_ok, h7, h9]
        · rw [List.flatMap_cons]
          intro k' hk'
          rcases List.mem_append.1 hk' with hk' | hk'
          · exact hxk k' hk'
          · exact h11 k' hk'
      split at h
      · rename_i cs n l' hk ht hl'
        split at h
        · rename_i hlen
          simp only [Option.some.injEq] at h; subst h
          refine go hk ht hl' (by unfold loadCs; rw [hlen]; rfl) ?_
          intro j hj
          obtain ⟨c, hc, hcj⟩ := List.mem_flatMap.1 hj
          exact r.okC k cs hk j (List.mem_flatMap.2 ⟨c, List.mem_of_mem_drop (List.mem_of_mem_take hc), hcj⟩)
        · cases h
      · rename_i cs n l' hk ht hl'
        split at h
        · rename_i c hc
          simp only [Option.some.injEq] at h; subst h
          refine go hk ht hl' (by unfold loadCs; simp only [hc]; rfl) ?_
          intro j hj
          have : j ∈ c.keys := by simpa [AV.keys, AV.cvs] using hj
          exact r.okC k cs hk j (List.mem_flatMap.2 ⟨c, List.mem_of_getElem? hc, this⟩)
        · cases h
      · cases h
    · cases h
theorem asPart_is {x : AV} {q : Bool × List CV} {u : Value} (h : asPart x = some q) (hx : x.is own ρ fr w u) : partIs own ρ fr w q u ∧ q.2.flatMap CV.keys = x.keys := by
  cases x with
  | one c => simp only [asPart, Option.some.injEq] at h; subst h; exact ⟨⟨[u], ⟨u, [], rfl, hx, rfl⟩, rfl⟩, rfl⟩
  | ag l => simp only [asPart, Option.some.injEq] at h; subst h; obtain ⟨us, e, hu⟩ := hx; exact ⟨⟨us, hu, e⟩, rfl⟩
  | tup l => cases h
theorem asParts_is : ∀ {xs : List AV} {qs : List (Bool × List CV)} {us : List Value}, asParts xs = some qs → asIs own ρ fr w xs us → partsIs own ρ fr w qs us ∧ (qs.flatMap (·.2)).flatMap CV.keys = xs.flatMap AV.keys
  | [], qs, us, h, hx => by simp only [asParts, Option.some.injEq] at h; subst h; exact ⟨hx, rfl⟩
  | x :: xs, qs, us, h, ⟨u, us', e, h1, h2⟩ => by
    simp only [asParts] at h
    split at h
    · rename_i p l hp hl
      simp only [Option.some.injEq] at h; subst h
      obtain ⟨a1, a2⟩ := asPart_is hp h1
      obtain ⟨b1, b2⟩ := asParts_is hl h2
      exact ⟨⟨u, us', e, a1, b1⟩, by rw [List.flatMap_cons, List.flatMap_append, a2, b2, List.flatMap_cons]⟩
    · cases h
/-- One result, or several. -/
def oneOr (us : List Value) : Value := if h : us.toArray.size = 1 then us.toArray[0] else .tuple us.toArray
theorem results_run {_st : Stt} {a : Act} (fn : Func) {us : List Value} (h : (fn.results.toList.mapM (resVal a)).run P w = .ok us w) : (results fn a.tmps).run P w = .ok (oneOr us) w := by
  rw [results_eq]
  have : (fn.results.mapM (resVal a)).run P w = .ok us.toArray w := by rw [Array.mapM_eq_mapM_toList, Sem.run_map, h]; rfl
  simp only [Sem.run_bind, this, Result.andThen_ok, Sem.run_pure]
  rfl
theorem oneOr_one (u : Value) : oneOr [u] = u := by unfold oneOr; simp
theorem oneOr_many {us : List Value} (h : us.length ≠ 1) : oneOr us = .tuple us.toArray := by unfold oneOr; rw [dif_neg (by simpa using h)]
theorem answer_run {st : Stt} {a : Act} (r : RepS w0 fr0 ρ fr st a w) {fn : Func} {z : AV} (h : (answer P fn st).val = some z) :
    ∃ v fr', (results fn a.tmps).run P w = .ok v w ∧ (∀ b, fr b → fr' b) ∧ (∀ b, fr' b → fr b ∨ w0.heap.size ≤ b) ∧ (∀ b, fr' b → b < w.heap.size) ∧ z.is [] (fun _ => none) fr' w v ∧ z.keys = [] := by
  unfold answer at h
  split at h
  · rename_i ts hts
    obtain ⟨us, h1, h2, h3⟩ := resAVs_run r hts
    split at h
    · rename_i xs hxs
      obtain ⟨fr2, r2, g2, _, _, hb2⟩ := freezeL_ok (lk := st.own.look) (ts.flatMap AV.keys) r.toRepM (told_of fun k ob h => h)
      obtain ⟨l1, l2⟩ := lendAll_is r.toRepM (fun k ob h => h) g2.frz [] (fun _ => none) hxs hb2 h2
      obtain ⟨l3, l4⟩ := normAll_is (P := P) (ts := fn.resultTypes.toList) l1
      rw [l2] at l4
      have fin : ∀ {v : Value}, (results fn a.tmps).run P w = .ok v w → z.is [] (fun _ => none) fr2 w v → z.keys = [] → ∃ v fr', (results fn a.tmps).run P w = .ok v w ∧ (∀ b, fr b → fr' b) ∧ (∀ b, fr' b → fr b ∨ w0.heap.size ≤ b) ∧ (∀ b, fr' b → b < w.heap.size) ∧ z.is [] (fun _ => none) fr' w v ∧ z.keys = [] :=
        fun hr hz hk => ⟨_, fr2, hr, g2.frz, fun b hb => (r2.frnew b hb).imp (r.frold b) id, r2.frlt, hz, hk⟩
      have hres := results_run (_st := st) fn h1
      obtain ⟨l5, l6⟩ := asIs_get l3
      split at h
      · rename_i x hx
        have := ret_some h
        subst this
        rw [hx] at l3 l4
        obtain ⟨u, us', rfl, l7, l8⟩ := l3
        cases l8
        rw [oneOr_one] at hres
        exact fin hres l7 (by simpa using l4)
      · rename_i hne
        split at h
        · rename_i ps hps
          have := ret_some h
          subst this
          obtain ⟨p1, p2⟩ := asParts_is hps l3
          rw [oneOr_many (fun e => by
            rw [l5] at e
            obtain ⟨y, hy⟩ := List.length_eq_one_iff.1 e
            exact hne y hy)] at hres
          exact fin hres ⟨us, rfl, p1⟩ (by rw [← l4]; exact p2)
        · cases h
    · cases h
  · cases h
theorem answerO_run {st : Stt} {a : Act} (r : RepS w0 fr0 ρ fr st a w) {fn : Func} {z : AV} (h : (answerO P fn st).val = some z) : ∃ v, (results fn a.tmps).run P w = .ok v w ∧ z.is st.own ρ fr w v ∧ okKeys st.own z.keys := by
  unfold answerO at h
  split at h
  · rename_i x hx
    obtain ⟨us, h1, ⟨u, us', rfl, h2, h4⟩, h3⟩ := resAVs_run r hx
    cases h4
    have := ret_some h
    subst this
    have hres := results_run (_st := st) fn h1
    rw [oneOr_one] at hres
    exact ⟨u, hres, h2, by simpa using h3⟩
  · rename_i l hne hx
    obtain ⟨us, h1, h2, h3⟩ := resAVs_run r hx
    split at h
    · rename_i ps hps
      have := ret_some h
      subst this
      obtain ⟨p1, p2⟩ := asParts_is hps h2
      have hres := results_run (_st := st) fn h1
      obtain ⟨l5, _⟩ := asIs_get h2
      rw [oneOr_many (fun e => by
        rw [l5] at e
        obtain ⟨y, hy⟩ := List.length_eq_one_iff.1 e
        exact hne y hy)] at hres
      exact ⟨_, hres, ⟨us, rfl, p1⟩, by
        have : (AV.tup ps).keys = l.flatMap AV.keys := p2
        rw [this]; exact h3⟩
    · cases h
  · cases h
theorem CV.is_congr {own' : Own} {c : CV} {u : Value} (h : ∀ k ∈ c.keys, own'.look k = own.look k) (hx : c.is own ρ fr w u) : c.is own' ρ fr w u := by
  cases c with
  | s kn k i n =>
    have hk := h k (by simp [CV.keys])
    have hx : SIs own ρ w k i n u := hx
    show SIs own' ρ w k i n u
    unfold SIs at *
    rw [hk]; exact hx
  | _ => exact hx
theorem cs_congr {own' : Own} : ∀ {l : List CV} {us : List Value}, (∀ k ∈ l.flatMap CV.keys, own'.look k = own.look k) → csIs own ρ fr w l us → csIs own' ρ fr w l us
  | [], _, _, h => h
  | c :: cs, _, hk, ⟨u, us', e, h1, h2⟩ => ⟨u, us', e, CV.is_congr (fun k hk' => hk k (by rw [List.flatMap_cons]; exact List.mem_append_left _ hk')) h1, cs_congr (fun k hk' => hk k (by rw [List.flatMap_cons]; exact List.mem_append_right _ hk')) h2⟩
theorem parts_congr {own' : Own} : ∀ {l : List (Bool × List CV)} {us : List Value}, (∀ k ∈ (l.flatMap (·.2)).flatMap CV.keys, own'.look k = own.look k) → partsIs own ρ fr w l us → partsIs own' ρ fr w l us
  | [], _, _, h => h
  | q :: r, _, hk, ⟨u, us', e, ⟨vs, h1, h1'⟩, h2⟩ => ⟨u, us', e, ⟨vs, cs_congr (fun k hk' => hk k (by rw [List.flatMap_cons, List.flatMap_append]; exact List.mem_append_left _ hk')) h1, h1'⟩,
      parts_congr (fun k hk' => hk k (by rw [List.flatMap_cons, List.flatMap_append]; exact List.mem_append_right _ hk')) h2⟩
theorem AV.is_congr {own' : Own} {x : AV} {u : Value} (h : ∀ k ∈ x.keys, own'.look k = own.look k) (hx : x.is own ρ fr w u) : x.is own' ρ fr w u := by
  cases x with
  | one c => exact CV.is_congr (fun k hk => h k (by simpa [AV.keys, AV.cvs] using hk)) hx
  | ag l =>
    obtain ⟨us, e, hu⟩ := hx
    exact ⟨us, e, cs_congr h hu⟩
  | tup l =>
    obtain ⟨us, e, hu⟩ := hx
    exact ⟨us, e, parts_congr h hu⟩
theorem look_filter (p : Nat → Bool) : ∀ (l : Own) (k : Nat), Own.look (l.filter fun q => p q.1) k = if p k then l.look k else none
  | [], k => by simp [Own.look]
  | (i, o) :: r, k => by
    have ih := look_filter p r k
    cases hp : p i with
    | true =>
      rw [List.filter_cons_of_pos (by simpa using hp)]
      simp only [Own.look]
      cases hb : Nat.beq i k with
      | true =>
        have := Nat.eq_of_beq_eq_true hb
        subst this
        simp [hp]
      | false => exact ih
    | false =>
      rw [List.filter_cons_of_neg (by simp [hp])]
      rw [ih]
      cases hb : Nat.beq i k with
      | true =>
        have := Nat.eq_of_beq_eq_true hb
        subst this
        simp [hp]
      | false => simp only [Own.look, hb]
/-- Only what was there before is kept. -/
theorem trim_ok {old : Own} {ρ0 : Nat → Option Nat} {fr1 : Nat → Prop} {w1 : World} (r : RepM w0 fr0 ρ fr own w) (g : Grow old ρ0 fr1 w1 own ρ fr w) {x : AV} {v : Value} (hx : x.is own ρ fr w v) :
    RepM w0 fr0 ρ fr (trimOwn old own x) w ∧ Grow old ρ0 fr1 w1 (trimOwn old own x) ρ fr w ∧ x.is (trimOwn old own x) ρ fr w v := by
  unfold trimOwn
  split
  · rename_i hb
    simp only [Bool.and_eq_true, List.all_eq_true] at hb
    have hl : ∀ k, has old k = true → Own.look (own.filter fun q => has old q.1) k = own.look k := fun k hk => by rw [look_filter, if_pos hk]
    have hs : ∀ k ob, Own.look (own.filter fun q => has old q.1) k = some ob → has old k = true ∧ own.look k = some ob := fun k ob h => by
      rw [look_filter] at h
      split at h
      · rename_i hk; exact ⟨hk, h⟩
      · cases h
    have hmem : ∀ (l : Own) k ob, l.look k = some ob → (k, ob) ∈ l := fun l k ob => by
      induction l with
      | nil => intro h; cases h
      | cons q r ih =>
        obtain ⟨i, o⟩ := q
        intro h
        simp only [Own.look] at h
        split at h
        · rename_i hb
          have := Nat.eq_of_beq_eq_true hb
          simp only [Option.some.injEq] at h
          subst this; subst h
          exact List.mem_cons_self
        · exact List.mem_cons_of_mem _ (ih h)
    have hold : ∀ k, has old k = true → has (own.filter fun q => has old q.1) k = true := fun k hk => by
      obtain ⟨ob, h⟩ := has_look.1 (g.has hk)
      exact has_look.2 ⟨ob, by rw [hl k hk]; exact h⟩
    have hc : ∀ k cs, Own.look (own.filter fun q => has old q.1) k = some (.cells cs) → ∀ j ∈ cs.flatMap CV.keys, has old j = true := fun k cs h j hj => hb.2 _ (hmem _ _ _ h) j hj
    refine ⟨{ ext := r.ext, bas := r.bas, frlt := r.frlt, frnew := r.frnew, frold := r.frold, cells := ?_, rows := ?_, inj := ?_, okC := ?_ }, ⟨?_, g.frz, g.frc, g.blk⟩, AV.is_congr (fun k hk => hl k (hb.1 k hk)) hx⟩
    · intro k cs hk
      obtain ⟨b, h1, h2, h3, h4, h5, h6⟩ := r.cells k cs (hs k _ hk).2
      refine ⟨b, h1, h2, h3, h4, h5, fun j c hj => ?_⟩
      obtain ⟨u, hu, hcu⟩ := h6 j c hj
      exact ⟨u, hu, CV.is_congr (fun k' hk' => hl k' (hc k cs hk k' (List.mem_flatMap.2 ⟨c, List.mem_of_getElem? hj, hk'⟩))) hcu⟩
    · intro k mu kl kn e t l hk
      exact r.rows k mu kl kn e t l (hs k _ hk).2
    · intro k k' ob ob' b hk hk'
      exact r.inj k k' ob ob' b (hs k _ hk).2 (hs k' _ hk').2
    · intro k cs hk j hj
      exact hold j (hc k cs hk j hj)
    · intro k ob hk
      obtain ⟨h1, ob', h2, h3⟩ := g.key k ob hk
      exact ⟨h1, ob', by rw [hl k (has_look.2 ⟨ob, hk⟩)]; exact h2, h3⟩
  · exact ⟨r, g, hx⟩
end
/-- What is given of callees is so. -/
def SumOK (P : Program) (S : Sums) : Prop := ∀ f args t, S f args = some t → ∀ r, t.val = some r → args.flatMap AV.keys = [] → ∀ w (fr : Nat → Prop) us, Bas w → (∀ b, fr b → b < w.heap.size) → asIs [] (fun _ => none) fr w args us →
  Calls P f us.toArray w fun e w' => ∃ v fr', e = .returned v ∧ Ext w w' ∧ (∀ b, fr b → fr' b) ∧ (∀ b, fr' b → fr b ∨ w.heap.size ≤ b) ∧ (∀ b, fr' b → b < w'.heap.size) ∧ r.is [] (fun _ => none) fr' w' v ∧ r.keys = []
/-- What is given of loops is so. -/
def OpenOK (P : Program) (f : FuncId) (m : Stt → Option (Tr (Ex × Stt))) : Prop := ∀ st t, m st = some t → ∀ r, t.val = some r → okKeys st.own (st.tm.flatMap AV.keys) → ∀ w0 fr0 ρ fr w us, RepM w0 fr0 ρ fr st.own w → asIs st.own ρ fr w st.tm us →
  Calls P f us.toArray w fun e w' => ∃ v ρ' fr', e = .returned v ∧ RepM w0 fr0 ρ' fr' r.2.own w' ∧ Grow st.own ρ fr w r.2.own ρ' fr' w' ∧ (r.2.tm.headD (.tup [])).is r.2.own ρ' fr' w' v
def LoopsOK (P : Program) (L : FuncId → Loops) : Prop := (∀ f fn body, P.funcs[f]? = some fn → fn.body = some body → LoopOK P body (L f)) ∧ ∀ f, OpenOK P f (L f [7])
theorem evalB_sound {P : Program} {S : Sums} {On : FuncId → Bool} {L : FuncId → Loops} (hm : P.follows .mixedOrders = true) (hS : SumOK P S) (hL : LoopsOK P L) : ∀ d, CallOK P (evalB P S On L d).1 ∧ IcOK P (evalB P S On L d).2
  | 0 => ⟨(fun f args r h => by cases h), (fun f args own nx r h => by cases h)⟩
  | d + 1 => by
    obtain ⟨ihc, iho⟩ := evalB_sound hm hS hL d (On := On)
    have nodec : ∀ tm, Dec.Ok [] tm := fun tm d b hl => by simp [Dec.look] at hl
    refine ⟨?_, ?_⟩
    · intro f args0 r h hk w fr us hbas hfr hus
      simp only [evalB] at h
      split at h
      · rename_i fn hfn
        obtain ⟨n1, n2⟩ := normAll_is (P := P) (ts := fn.params.toList) hus
        rw [hk] at n2
        split at h
        · rename_i t ht
          exact hS f _ t ht r h n2 w fr us hbas hfr n1
        · split at h
          · rename_i body hb
            obtain ⟨y, h, hmg⟩ := mergeF_val h
            obtain ⟨⟨ex, st', dec'⟩, h1, h2⟩ := Tr.bind_some h
            have m0 : RepM w fr (fun _ => none) fr [] w := { ext := Ext.refl w, bas := hbas, frlt := hfr, frnew := fun b hb => .inl hb, frold := fun b hb => hb, cells := (fun k cs hk => by cases hk), rows := (fun k _ _ _ _ _ _ hk => by cases hk), inj := (fun k k' _ _ _ hk => by cases hk), okC := (fun k cs hk => by cases hk) }
            have hlen : (normAll P fn.params.toList args0).length = args0.length := by
              rw [← (asIs_get n1).1, (asIs_get hus).1]
            refine calls_of_wp hfn hb ((code_sound (w0 := w) (fr0 := fr) hm ihc iho (hL.1 f fn body hfn hb) 100000).1 (at_ := []) (by simp [codeAt]) h1 (nodec _) (rep_enter m0 n1 (okKeys_nil n2) _ fn.ntmps 0 (by rw [hlen])) ?_)
            intro _ ρ' fr' a' w' r' g'
            have fin : (answer P fn st').val = some y → ∃ v, (results fn a'.tmps).run P w' = .ok v w' ∧ ∃ v_1 fr', Ending.returned v = .returned v_1 ∧ Ext w w' ∧ (∀ b, fr b → fr' b) ∧ (∀ b, fr' b → fr b ∨ w.heap.size ≤ b) ∧ (∀ b, fr' b → b < w'.heap.size) ∧ r.is [] (fun _ => none) fr' w' v_1 ∧ r.keys = [] := fun h2 => by
              obtain ⟨v, fr2, a1, a2, a3, a4, a5, a6⟩ := answer_run r' h2
              refine ⟨v, a1, v, fr2, rfl, r'.ext, fun b hb => a2 b (r'.frold b hb), fun b hb => (a3 b hb).elim (r'.frnew b) .inr, a4, ?_, ?_⟩
              · rcases hmg with e | ⟨e, _⟩
                · rw [e]; exact a5
                · rw [e]; exact AV.is_clr a5
              · rcases hmg with e | ⟨e, _⟩
                · rw [e]; exact a6
                · rw [e, AV.keys_clr]; exact a6
            cases ex with
            | normal =>
              obtain ⟨v, b1, b2⟩ := fin h2
              exact ⟨r'.df, v, b1, b2⟩
            | ret =>
              obtain ⟨v, b1, b2⟩ := fin h2
              exact ⟨r'.df, v, b1, b2⟩
            | exit id => cases h2
          · cases h
      · cases h
    · intro f args0 own nx r h hk w0 fr0 ρ fr w us m hus
      simp only [evalB] at h
      split at h
      · rename_i t ht
        obtain ⟨q, h1, h2⟩ := Tr.bind_some h
        have := ret_some h2
        subst this
        exact hL.2 f ⟨args0, own, nx⟩ t ht q h1 hk w0 fr0 ρ fr w us m hus
      · split at h
        · rename_i fn hfn
          split at h
          · rename_i body hb
            obtain ⟨⟨ex, st', dec'⟩, h1, h2⟩ := Tr.bind_some h
            refine calls_of_wp hfn hb ((code_sound (w0 := w0) (fr0 := fr0) hm ihc iho (hL.1 f fn body hfn hb) 100000).1 (at_ := []) (by simp [codeAt]) h1 (nodec _) (rep_enter m hus hk _ fn.ntmps nx rfl) ?_)
            intro _ ρ' fr' a' w' r' g'
            have fin : ((answerO P fn st').bind fun x => Tr.ret (x, trimOwn own st'.own x)).val = some r → ∃ v, (results fn a'.tmps).run P w' = .ok v w' ∧ ∃ v_1 ρ' fr', Ending.returned v = .returned v_1 ∧ RepM w0 fr0 ρ' fr' r.2 w' ∧ Grow own ρ fr w r.2 ρ' fr' w' ∧ r.1.is r.2 ρ' fr' w' v_1 := fun h2 => by
              obtain ⟨z, h3, h4⟩ := Tr.bind_some h2
              have := ret_some h4
              subst this
              obtain ⟨v, a1, a2, _⟩ := answerO_run r' h3
              obtain ⟨b1, b2, b3⟩ := trim_ok r'.toRepM g' a2
              exact ⟨v, a1, v, ρ', fr', rfl, b1, b2, b3⟩
            cases ex with
            | normal =>
              obtain ⟨v, b1, b2⟩ := fin h2
              exact ⟨r'.df, v, b1, b2⟩
            | ret =>
              obtain ⟨v, b1, b2⟩ := fin h2
              exact ⟨r'.df, v, b1, b2⟩
            | exit id => cases h2
          · cases h
        · cases h
end Go.Proofs.Ytacgchandefjgaa
