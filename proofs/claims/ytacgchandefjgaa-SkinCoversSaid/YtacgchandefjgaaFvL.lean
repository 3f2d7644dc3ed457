/-
  The evaluator is right: append, copy. No program is named here.
-/
import Derived.Test.YtacgchandefjgaaFvK
namespace Go.Proofs.Ytacgchandefjgaa
open Go
/-- The values us are the cells of the elements of l, one behind the other. -/
def Flat (w : World) (fr : Nat → Prop) (t : Ty) (l : List t.den) (us : List Value) : Prop :=
  us.length = l.length * t.size ∧ (∀ v ∈ us, v.oneCell' = true) ∧ ∀ (i : Nat) x, l[i]? = some x → ∃ vs, t.Is w fr x vs ∧ ∀ (j : Nat) v, vs[j]? = some v → us[i * t.size + j]? = some v
section
variable {P : Program} {call : CallT} {w0 : World} {fr0 : Nat → Prop} {ρ : Nat → Option Nat} {fr : Nat → Prop} {tm : List AV} {own : Own} {a : Act} {w : World} {o : Oper} {K : Act → World → Prop} {Q : Exit → Act → World → Prop}
  {lk : Nat → Option OB} {key : Nat} {x : AV} {ws : List (Nat × OB)}
theorem Flat.nil {t : Ty} : Flat w fr t [] [] := ⟨by simp, (fun v h => by simp at h), (fun i x h => by simp at h)⟩
theorem Flat.append {t : Ty} {l l' : List t.den} {us us' : List Value} (h : Flat w fr t l us) (h' : Flat w fr t l' us') : Flat w fr t (l ++ l') (us ++ us') := by
  obtain ⟨a1, a2, a3⟩ := h
  obtain ⟨b1, b2, b3⟩ := h'
  refine ⟨by simp [a1, b1, Nat.add_mul], fun v hv => ?_, fun i x hi => ?_⟩
  · rcases List.mem_append.1 hv with h | h
    · exact a2 v h
    · exact b2 v h
  · by_cases hl : i < l.length
    · rw [List.getElem?_append_left hl] at hi
      obtain ⟨vs, h1, h2⟩ := a3 i x hi
      refine ⟨vs, h1, fun j v hj => ?_⟩
      have h3 := h2 j v hj
      rw [List.getElem?_append_left (List.getElem?_eq_some_iff.1 h3).1]; exact h3
    · rw [List.getElem?_append_right (by omega)] at hi
      obtain ⟨vs, h1, h2⟩ := b3 _ x hi
      refine ⟨vs, h1, fun j v hj => ?_⟩
      have h3 := h2 j v hj
      have hle : l.length * t.size ≤ i * t.size := Nat.mul_le_mul_right _ (by omega)
      rw [List.getElem?_append_right (by omega), a1, ← h3]
      congr 1
      rw [Nat.sub_mul]; omega
theorem flat_one {t : Ty} {x : t.den} {vs : List Value} (h : t.Is w fr x vs) : Flat w fr t [x] vs := by
  refine ⟨by simp [h.length], h.one, fun i y hi => ?_⟩
  cases i with
  | zero => simp at hi; subst hi; exact ⟨vs, h, fun j v hj => by simpa using hj⟩
  | succ i => simp at hi
/-- A row's cells as one list. -/
theorem flat_of_row {t : Ty} {b : Nat} : ∀ {l : List t.den} {o : Nat}, RowAt w fr t l b o → ∃ us, Flat w fr t l us ∧ ∀ (j : Nat) u, us[j]? = some u → w.cell? ⟨b, o + j, none⟩ = some u
  | [], _, _ => ⟨[], Flat.nil, fun _ _ h => by simp at h⟩
  | x :: l, o, h => by
    obtain ⟨vs, h1, h2⟩ := h 0 x rfl
    obtain ⟨us, h3, h4⟩ := flat_of_row (l := l) (o := o + t.size) fun i y hi => by
      obtain ⟨vs', h5, h6⟩ := h (i + 1) y (by simpa using hi)
      refine ⟨vs', h5, fun j u hj => ?_⟩
      have := h6 j u hj
      rwa [show o + (i + 1) * t.size + j = o + t.size + i * t.size + j by rw [Nat.add_mul]; omega] at this
    refine ⟨vs ++ us, (flat_one h1).append h3, fun j u hj => ?_⟩
    by_cases hl : j < vs.length
    · rw [List.getElem?_append_left hl] at hj
      have := h2 j u hj
      simpa using this
    · rw [List.getElem?_append_right (by omega)] at hj
      have := h4 _ u hj
      rw [h1.length] at this hl
      rwa [show o + t.size + (j - t.size) = o + j by omega] at this
theorem row_of_flat {t : Ty} {l : List t.den} {us : List Value} {b o : Nat} {w' : World} (h : Flat w fr t l us) (hc : ∀ b, fr b → ∀ o, w'.cell? ⟨b, o, none⟩ = w.cell? ⟨b, o, none⟩) (hu : ∀ (j : Nat) u, us[j]? = some u → w'.cell? ⟨b, o + j, none⟩ = some u) : RowAt w' fr t l b o := fun i x hi => by
  obtain ⟨vs, h1, h2⟩ := h.2.2 i x hi
  exact ⟨vs, h1.mono (fun _ h => h) hc, fun j u hj => by rw [Nat.add_assoc]; exact hu _ u (h2 j u hj)⟩
theorem csIs_drop : ∀ (n : Nat) {cs : List CV} {us : List Value}, csIs own ρ fr w cs us → csIs own ρ fr w (cs.drop n) (us.drop n)
  | 0, _, _, h => h
  | n + 1, [], _, h => by cases h; exact rfl
  | n + 1, c :: cs, _, ⟨u, us', e, _, h⟩ => by subst e; exact csIs_drop n h
/-- The values of a block's cells. -/
theorem cells_us {cs : List CV} {b : Nat} (h : ∀ (j : Nat) x, cs[j]? = some x → ∃ u, w.cell? ⟨b, j, none⟩ = some u ∧ x.is own ρ fr w u) : ∃ us, csIs own ρ fr w cs us ∧ ∀ (j : Nat) u, us[j]? = some u → w.cell? ⟨b, j, none⟩ = some u := by
  have hex : ∀ j : Nat, ∃ u, ∀ x, cs[j]? = some x → w.cell? ⟨b, j, none⟩ = some u ∧ x.is own ρ fr w u := fun j => by
    cases hj : cs[j]? with
    | none => exact ⟨undef, fun x hx => by cases hx⟩
    | some x =>
      obtain ⟨u, h1, h2⟩ := h j x hj
      exact ⟨u, fun y hy => by cases hy; exact ⟨h1, h2⟩⟩
  obtain ⟨f, hf⟩ : ∃ f : Nat → Value, ∀ j x, cs[j]? = some x → w.cell? ⟨b, j, none⟩ = some (f j) ∧ x.is own ρ fr w (f j) := ⟨fun j => (hex j).choose, fun j => (hex j).choose_spec⟩
  refine ⟨(List.range cs.length).map f, csIs_mk (by simp) fun j x u hx hu => ?_, fun j u hu => ?_⟩
  · have hj := (List.getElem?_eq_some_iff.1 hx).1
    simp [hj] at hu
    subst hu
    exact (hf j x hx).2
  · have hj : j < cs.length := by
      have := (List.getElem?_eq_some_iff.1 hu).1
      simpa using this
    simp [hj] at hu
    subst hu
    exact (hf j _ (List.getElem?_eq_getElem hj)).1
theorem takeN_is {ty : Ty} : ∀ {n : Nat} {cs : List CV} {kn : Bool} {l : List ty.den}, takeN ty n cs = some (kn, l) → ∀ {us : List Value}, csIs own ρ fr w cs us → l.length = n ∧ ∃ vs rs, us = vs ++ rs ∧ Flat w fr ty l vs
  | 0, cs, kn, l, h, us, hu => by
    simp only [takeN, Option.some.injEq, Prod.mk.injEq] at h
    obtain ⟨_, rfl⟩ := h
    exact ⟨rfl, [], us, rfl, Flat.nil⟩
  | n + 1, cs, kn, l, h, us, hu => by
    simp only [takeN] at h
    split at h
    · rename_i k1 x r hx
      split at h
      · rename_i k2 l' hl'
        simp only [Option.some.injEq, Prod.mk.injEq] at h
        obtain ⟨_, rfl⟩ := h
        obtain ⟨us1, us2, rfl, h1, h2⟩ := Ty.take_is hx hu
        obtain ⟨h3, vs, rs, rfl, h4⟩ := takeN_is hl' h2
        refine ⟨by simp [h3], us1 ++ vs, rs, by simp, ?_⟩
        exact (flat_one h1).append h4
      · cases h
    · cases h
/-- What a slice holds that is read. -/
theorem srcOf_is (r : RepM w0 fr0 ρ fr own w) (hlk : ∀ k ob, lk k = some ob → own.look k = some ob) {y : AV} {ty : Ty} {k1 k2 : Bool} {ys : List ty.den} {u : Value} (h : srcOf lk y ty = some (k1, k2, ys)) (hy : y.is own ρ fr w u) :
    ∃ sa c, u = .slice sa ys.length c ∧ ys.length ≤ c ∧ ∃ us, Flat w fr ty ys us ∧ (ys ≠ [] → ∃ b o, sa = some ⟨b, o, none⟩ ∧ ∀ (j : Nat) v, us[j]? = some v → w.cell? ⟨b, o + j, none⟩ = some v) := by
  unfold srcOf at h
  split at h
  · rename_i kl kn t l
    split at h
    · rename_i e
      subst e
      simp only [Option.some.injEq, Prod.mk.injEq] at h
      obtain ⟨_, _, rfl⟩ := h
      obtain ⟨ad, c, e, h1, h2, h3⟩ := hy
      simp only [List.cons.injEq, and_true] at e
      by_cases hn : l = []
      · have hn' := hn
        subst hn'
        exact ⟨ad, c, e, h1, [], Flat.nil, fun h => absurd rfl h⟩
      · obtain ⟨b, o', h4, h5, h6⟩ := h3 hn
        obtain ⟨us, h7, h8⟩ := flat_of_row (o := o') (b := b) h6
        exact ⟨ad, c, e, h1, us, h7, fun _ => ⟨b, o', h4, h8⟩⟩
    · cases h
  · rename_i kn k i n
    split at h
    · rename_i mu kl kn' e t l hk
      split at h
      · rename_i e
        subst e
        simp only [Option.some.injEq, Prod.mk.injEq] at h
        obtain ⟨_, _, rfl⟩ := h
        obtain ⟨h0, hl, ad, c, rfl, h1, h2, h3⟩ := sis_row r (hlk _ _ hk) hy
        refine ⟨ad, c, by rw [← hl], by rw [hl]; exact h1, ?_⟩
        rcases h3 with ⟨_, _, hz⟩ | ⟨b, C, h4, h5, h6, h7, h8, h9⟩
        · have : cut l i n = [] := List.length_eq_zero_iff.1 (by rw [hl, hz])
          rw [this]
          exact ⟨[], Flat.nil, fun h => absurd rfl h⟩
        · obtain ⟨us, h10, h11⟩ := flat_of_row (w := w) (fr := fr) (l := cut l i n) (b := b) (o := i * t.size) fun j z hj => by
            obtain ⟨vs, h12, h13⟩ := h8 (i + j) z (cut_get l i n j hj)
            refine ⟨vs, h12, fun q v hq => ?_⟩
            have := h13 q v hq
            rwa [Nat.zero_add, Nat.add_mul] at this
          refine ⟨us, h10, fun hne => ?_⟩
          have hpos : 0 < cutLen l i n := by rw [← hl]; exact List.length_pos_iff.2 hne
          obtain ⟨ha, _⟩ := h9 (.inr hpos)
          exact ⟨b, _, ha, h11⟩
      · cases h
    · rename_i cs hk
      split at h
      · rename_i m
        split at h
        · rename_i k2' l ht
          simp only [Option.some.injEq, Prod.mk.injEq] at h
          obtain ⟨_, _, rfl⟩ := h
          have hy : SIs own ρ w k i (some m) u := hy
          have hk' := hlk _ _ hk
          unfold SIs at hy
          rw [hk'] at hy
          obtain ⟨b, c, hb, rfl, h1, h2⟩ := hy.2 m rfl
          obtain ⟨b', hb', _, _, _, _, hcs⟩ := r.cells k cs hk'
          rw [hb] at hb'
          cases hb'
          obtain ⟨us, e1, e2⟩ := cells_us hcs
          obtain ⟨hl, ⟨vs, rs, e3, hf⟩⟩ := takeN_is ht (csIs_drop i e1)
          refine ⟨_, c, by rw [hl], by rw [hl]; exact h1, vs, hf, fun _ => ⟨b, i, rfl, fun j v hj => ?_⟩⟩
          have : us[i + j]? = some v := by
            rw [← List.getElem?_drop, e3]
            rw [List.getElem?_append_left (List.getElem?_eq_some_iff.1 hj).1]; exact hj
          exact e2 _ _ this
        · cases h
      · cases h
    · cases h
  · simp only [Option.some.injEq, Prod.mk.injEq] at h
    obtain ⟨_, _, rfl⟩ := h
    exact ⟨none, 0, hy, Nat.le_refl _, [], Flat.nil, fun h => absurd rfl h⟩
  · cases h
theorem run_append_zero {t ty e : TypeId} {i : TypeInfo} (ht : P.underlying t = some (.slice e)) (hi : P.info? e = some i) (n cap : Nat) (hn : n ≤ cap) (sa : Option Addr) (c : Nat) (b' : Option Addr) :
    (Builtin.append_ #[t, t] ty #[.slice b' n cap, .slice sa 0 c]).run P w = .ok (.slice b' n cap) w := by
  have hl : ∀ (x : Addr), (loadCells x 0).run P w = .ok #[] w := fun x => by simpa using run_loadCells_list (P := P) w x [] (by simp)
  cases b' <;> cases sa <;> simp [Builtin.append_, run_und ht, sizeOf, typeInfo, hi, Builtin.lenOf, Builtin.firstCells, hn, hl, storeCells]
/-- What append does to a row, or to nothing. -/
theorem append_core (r : RepM w0 fr0 ρ fr own w) {t ty' e : TypeId} {i : TypeInfo} {z : Value} {ty : Ty} (ht : P.underlying t = some (.slice e)) (hi : P.info? e = some i) (hz : i.zero = some z) (hsz : i.size = ty.size) (hzs : z.cells.size = ty.size)
    {l0 ys : List ty.den} {us0 us : List Value} (hf0 : Flat w fr ty l0 us0) (hf : Flat w fr ty ys us) {kl kn : Bool}
    (hkey : own.look key = none) {sa : Option Addr} {sc : Nat} (hsc : ys.length ≤ sc) (hsa : ys ≠ [] → ∃ b o, sa = some ⟨b, o, none⟩ ∧ ∀ (j : Nat) v, us[j]? = some v → w.cell? ⟨b, o + j, none⟩ = some v)
    (hb48 : (l0.length + ys.length) * i.bytes ≤ maxNew) (hmax : l0.length + ys.length ≤ maxLen)
    (v : Value) (hv : ((∃ va, v = .slice va 0 0) ∧ l0 = []) ∨ ∃ b C, v = .slice (some ⟨b, 0, none⟩) l0.length C ∧ l0.length ≤ C ∧ C ≤ maxLen ∧ Blk w b e (C * ty.size) ∧ w0.heap.size ≤ b ∧ ¬ fr b ∧ (∀ k ob, own.look k = some ob → ob.live → ρ k ≠ some b) ∧ ∀ (j : Nat) u, us0[j]? = some u → w.cell? ⟨b, j, none⟩ = some u) :
    ∃ u w' b, (Builtin.append_ #[t, t] ty' #[v, .slice sa ys.length sc]).run P w = .ok u w' ∧ RepM w0 fr0 (rho ρ key b) fr (own.set key (.row true kl kn e ty (l0 ++ ys))) w' ∧
      Grow own ρ fr w (own.set key (.row true kl kn e ty (l0 ++ ys))) (rho ρ key b) fr w' ∧ SIs (own.set key (.row true kl kn e ty (l0 ++ ys))) (rho ρ key b) w' key 0 none u := by
  have hpos := ty.size_pos
  have hnl : us.length = ys.length * i.size := by rw [hf.1, hsz]
  -- a new block
  have new : ∀ {cap : Nat}, l0.length + ys.length ≤ cap → cap ≤ maxLen → ∀ {cells : Array Value} {w1 : World}, Ext w w1 → w1.heap[w.heap.size]? = some (.cells cells e (0, 0)) → cells.size = cap * ty.size → (∀ (j : Nat) u, (us0 ++ us)[j]? = some u → cells[j]? = some u) →
      RepM w0 fr0 (rho ρ key (some w.heap.size)) fr (own.set key (.row true kl kn e ty (l0 ++ ys))) w1 ∧ Grow own ρ fr w (own.set key (.row true kl kn e ty (l0 ++ ys))) (rho ρ key (some w.heap.size)) fr w1 ∧
      SIs (own.set key (.row true kl kn e ty (l0 ++ ys))) (rho ρ key (some w.heap.size)) w1 key 0 none (.slice (some ⟨w.heap.size, 0, none⟩) (l0.length + ys.length) cap) := fun hc1 hc2 cells w1 hx hat hcs hcells => by
    obtain ⟨r3, g3⟩ := r.newRow (w' := w1) hkey (mu := true) (kl := kl) (kn := kn) (e := e) (t := ty) (l := l0 ++ ys) rfl hx hat hcs (by simpa using hc1) hc2
      (row_of_flat (hf0.append hf) (fun c hc o => by rw [(bcell hx).1 _ _ (r.frlt c hc)]) fun j u hj => by
        simp only [World.cell?]
        rw [hat]
        simpa using hcells j u hj)
    refine ⟨r3, g3, ?_⟩
    unfold SIs
    simp only [Own.look_set, if_true, cutLen, List.length_append]
    exact ⟨by omega, .inr ⟨w.heap.size, _, _, _, by simp [rho], ⟨cells, hat, hcs⟩, rfl, hc1, hc2, hc2, fun _ => ⟨by simp, by omega⟩⟩⟩
  have hdx : Ext w w.drew := (Ext.refl w).drew
  have grown : ∀ (old : Nat) (olds : List Value), olds = us0 → old < l0.length + ys.length →
      RepM w0 fr0 (rho ρ key (some w.heap.size)) fr (own.set key (.row true kl kn e ty (l0 ++ ys))) (w.drew.alloc (.cells (olds.toArray ++ us.toArray ++ Builtin.zeroCells z.cells (grownCap w (l0.length + ys.length) old e - (l0.length + ys.length))) e)) ∧
      Grow own ρ fr w (own.set key (.row true kl kn e ty (l0 ++ ys))) (rho ρ key (some w.heap.size)) fr (w.drew.alloc (.cells (olds.toArray ++ us.toArray ++ Builtin.zeroCells z.cells (grownCap w (l0.length + ys.length) old e - (l0.length + ys.length))) e)) ∧
      SIs (own.set key (.row true kl kn e ty (l0 ++ ys))) (rho ρ key (some w.heap.size)) (w.drew.alloc (.cells (olds.toArray ++ us.toArray ++ Builtin.zeroCells z.cells (grownCap w (l0.length + ys.length) old e - (l0.length + ys.length))) e)) key 0 none (.slice (some ⟨w.heap.size, 0, none⟩) (l0.length + ys.length) (grownCap w (l0.length + ys.length) old e)) := fun old olds he ho => by
    subst he
    have hge := grownCap_ge w (l0.length + ys.length) old e
    have hcm := grownCap_le_maxLen w (l0.length + ys.length) old e hmax
    refine new hge hcm (hdx.alloc _) (heap_alloc_new w.drew _) ?_ fun j u hj => ?_
    · simp only [Array.size_append, List.size_toArray, size_zeroCells, hzs, hf0.1, hf.1, ← Nat.add_mul]
      congr 1
      omega
    · have hlt := (List.getElem?_eq_some_iff.1 hj).1
      rw [Array.getElem?_append_left (by simpa using hlt)]
      simpa using hj
  by_cases hy0 : ys = []
  · -- nothing is added
    subst hy0
    have hus : us = [] := List.length_eq_zero_iff.1 (by simpa using hf.1)
    subst hus
    simp only [List.length_nil, Nat.add_zero, List.append_nil] at *
    rcases hv with ⟨⟨va, rfl⟩, rfl⟩ | ⟨b, C, rfl, h1, h2, h3, h4, h5, h6, h7⟩
    · refine ⟨_, w, none, run_append_zero ht hi 0 0 (Nat.le_refl _) sa sc va, ?_⟩
      obtain ⟨r3, g3⟩ := r.put (k := key) (ob := .row true kl kn e ty []) (b := none) (fresh_live hkey) (fun _ _ _ _ _ _ _ _ h => by cases h) (fun _ e => by cases e) (fun _ _ _ _ _ _ e' => by cases e'; exact .inl ⟨rfl, rfl⟩)
      refine ⟨r3, g3, ?_⟩
      unfold SIs
      simp only [Own.look_set, if_true, cutLen]
      exact ⟨by simp, .inl ⟨by simp [rho], ⟨va, rfl⟩, by simp⟩⟩
    · refine ⟨_, w, some b, run_append_zero ht hi _ _ h1 sa sc _, ?_⟩
      obtain ⟨r3, g3⟩ := r.put (k := key) (ob := .row true kl kn e ty l0) (b := some b) (fresh_live hkey) (fun _ k' o' c _ ha hb hc e => h6 k' o' ha hb (by rw [hc, ← e])) (fun _ e => by cases e)
        (fun _ _ _ _ _ _ e' => by
          cases e'
          exact .inr ⟨b, C, rfl, h4, h3, h1, h2, row_of_flat hf0 (fun _ _ _ => rfl) (fun j u hj => by rw [Nat.zero_add]; exact h7 j u hj), fun _ => h5, fun h => by cases h⟩)
      refine ⟨r3, g3, ?_⟩
      unfold SIs
      simp only [Own.look_set, if_true, cutLen]
      exact ⟨by omega, .inr ⟨b, C, _, _, by simp [rho], h3, rfl, h1, h2, h2, fun _ => ⟨by simp, by omega⟩⟩⟩
  · obtain ⟨sb, so, rfl, hnews⟩ := hsa hy0
    have hnews' : ∀ (j : Nat) v, us[j]? = some v → w.cell? ((⟨sb, so, none⟩ : Addr).add j) = some v := fun j v hj => by rw [add_plain']; exact hnews j v hj
    have hyp : 0 < ys.length := List.length_pos_iff.2 hy0
    rcases hv with ⟨⟨va, rfl⟩, rfl⟩ | ⟨b, C, rfl, h1, h2, h3, h4, h5, h6, h7⟩
    · have hus0 : us0 = [] := List.length_eq_zero_iff.1 (by simpa using hf0.1)
      subst hus0
      have hg := grown 0 [] rfl (by simpa using hyp)
      simp only [List.length_nil, Nat.zero_add] at hg
      cases va with
      | none =>
        have hr := run_append_nil (P := P) w t ty' e i z ht hi hz ⟨sb, so, none⟩ ys.length sc us hnl hnews' hyp (by simp only [maxLen] at hmax; simp at hmax; omega) (by simp only [maxNew] at hb48; simp at hb48; omega)
        have hee : (#[] : Array Value) ++ us.toArray = us.toArray := by simp
        rw [hee] at hg
        exact ⟨_, _, some w.heap.size, hr, hg⟩
      | some ad =>
        have hr := run_append_grow (P := P) w t ty' e i z ht hi hz ad 0 0 [] (by simp) (fun j v hj => by simp at hj) ⟨sb, so, none⟩ ys.length sc us hnl hnews' (by omega) (by simp only [maxLen] at hmax; simp at hmax; omega) (growslice_fits (by omega) hb48)
        simp only [Nat.zero_add] at hr
        exact ⟨_, _, some w.heap.size, hr, hg⟩
    · by_cases hroom : l0.length + ys.length ≤ C
      · obtain ⟨cur, hcur, hcs⟩ := h3
        have hfit : l0.length * i.size + us.length ≤ cur.size := by rw [hnl, hcs, hsz, ← Nat.add_mul]; exact Nat.mul_le_mul_right _ hroom
        have hr := run_append_room (P := P) w t ty' e i ht hi b l0.length C cur hcur ⟨sb, so, none⟩ ys.length sc us hnl hnews' hf.2.1 hroom hfit
        generalize hw1 : w.setRow b (cur.toList.take (l0.length * i.size) ++ us ++ cur.toList.drop (l0.length * i.size + us.length)).toArray = w1 at hr
        have hh : ∀ c, c ≠ b → w1.heap[c]? = w.heap[c]? := fun c hc => by rw [← hw1]; exact setRow_other w b c _ hc
        have hhb : w1.heap[b]? = some (.cells (cur.toList.take (l0.length * i.size) ++ us ++ cur.toList.drop (l0.length * i.size + us.length)).toArray e (0, 0)) := by rw [← hw1]; exact setRow_heap w b cur _ e _ hcur
        have hlen : (cur.toList.take (l0.length * i.size) ++ us ++ cur.toList.drop (l0.length * i.size + us.length)).length = C * ty.size := by
          simp only [List.length_append, List.length_take, List.length_drop, Array.length_toList]
          omega
        have hblt : b < w.heap.size := (Array.getElem?_eq_some_iff.1 hcur).1
        have hs1 : w1.heap.size = w.heap.size := by rw [← hw1]; simp [World.setRow]
        have hx : Ext w0 w1 := ⟨⟨by rw [← hw1]; exact r.ext.os, by rw [← hw1]; exact r.ext.tape, by rw [← hw1]; exact r.ext.output, by rw [hs1]; exact r.ext.size, fun k hk => by rw [hh k (by omega)]; exact r.ext.block k hk⟩, by rw [← hw1]; exact r.ext.drawn⟩
        obtain ⟨r1, g1⟩ := r.world (w' := w1) (fun c => c = b) hx (by rw [hs1]; exact Nat.le_refl _) (fun c _ hc => hh c hc) (fun c hc => by rw [hc]; exact h5) (fun k ob c ha hb hc e => h6 k ob ha hb (by rw [hc, e]))
          (fun c e' n hB => by
            by_cases hc : c = b
            · subst hc
              obtain ⟨cur', e1, e2⟩ := hB
              rw [hcur] at e1; cases e1
              exact ⟨_, hhb, by rw [List.size_toArray, hlen, ← hcs, e2]⟩
            · obtain ⟨cur', e1, e2⟩ := hB
              exact ⟨cur', by rw [hh c hc]; exact e1, e2⟩)
        have hBlk : Blk w1 b e (C * ty.size) := ⟨_, hhb, by rw [List.size_toArray, hlen]⟩
        have hread : ∀ (j : Nat) u, (us0 ++ us)[j]? = some u → w1.cell? ⟨b, j, none⟩ = some u := fun j u hj => by
          simp only [World.cell?]
          rw [hhb]
          simp only [Option.isSome_none, Bool.false_eq_true, if_false, List.getElem?_toArray]
          have h0l : us0.length = l0.length * i.size := by rw [hf0.1, hsz]
          have htl : (cur.toList.take (l0.length * i.size)).length = l0.length * i.size := by
            simp only [List.length_take, Array.length_toList]; omega
          rw [List.append_assoc]
          by_cases hj0 : j < us0.length
          · rw [List.getElem?_append_left hj0] at hj
            rw [List.getElem?_append_left (by omega), List.getElem?_take, if_pos (by omega)]
            have := h7 j u hj
            simp only [World.cell?, hcur, Option.isSome_none, Bool.false_eq_true, if_false] at this
            simpa using this
          · rw [List.getElem?_append_right (by omega)] at hj
            rw [List.getElem?_append_right (by omega), htl, ← h0l, List.getElem?_append_left (List.getElem?_eq_some_iff.1 hj).1]
            exact hj
        obtain ⟨r3, g3⟩ := r1.put (k := key) (ob := .row true kl kn e ty (l0 ++ ys)) (b := some b) (fresh_live hkey) (fun _ k' o' c _ ha hb hc e => h6 k' o' ha hb (by rw [hc, ← e])) (fun _ e => by cases e)
          (fun _ _ _ _ _ _ e' => by
            cases e'
            exact .inr ⟨b, C, rfl, h4, hBlk, by simpa using hroom, h2, row_of_flat (hf0.append hf) (fun c hc o => g1.frc c hc o) (fun j u hj => by rw [Nat.zero_add]; exact hread j u hj), fun _ => h5, fun h => by cases h⟩)
        refine ⟨_, w1, some b, hr, r3, g1.trans g3, ?_⟩
        unfold SIs
        simp only [Own.look_set, if_true, cutLen, List.length_append]
        exact ⟨by omega, .inr ⟨b, C, _, _, by simp [rho], hBlk, rfl, hroom, h2, h2, fun _ => ⟨by simp, by omega⟩⟩⟩
      · have h0l : us0.length = l0.length * i.size := by rw [hf0.1, hsz]
        have hr := run_append_grow (P := P) w t ty' e i z ht hi hz ⟨b, 0, none⟩ l0.length C us0 h0l (fun j v hj => by rw [add_plain', Nat.zero_add]; exact h7 j v hj) ⟨sb, so, none⟩ ys.length sc us hnl hnews' (by omega) (by simp only [maxLen] at hmax; omega) (growslice_fits (by omega) hb48)
        exact ⟨_, _, some w.heap.size, hr, grown C us0 rfl (by omega)⟩
theorem opAppend_sound (r : Rep w0 fr0 ρ fr tm own a w) (hlk : ∀ k ob, lk k = some ob → own.look k = some ob) (hkey : (∃ ob, (key, ob) ∈ ws) → own.look key = none) {t1 t2 : TypeId} {y z : Operand}
    (ho : o.op = .call ⟨.builtin .append, #[y, z], #[t1, t2]⟩) (h : (opAppend P lk key t1 t2 (opd tm y) (opd tm z)).val = some (x, ws)) (hK : Fin w0 fr0 ρ fr own a w o K (own.puts ws) x) : o.wp P a w K Q := by
  have hy := r.eval y
  have hz := r.eval z
  unfold opAppend at h
  split at h
  · rename_i e ht12 ht
    have ht12 := of_decide_eq_true ht12
    subst ht12
    have run : ∀ {u : Value} {w' : World}, (Builtin.append_ #[t1, t1] o.type #[a.eval y, a.eval z]).run P w = .ok u w' → (execOp a.eval o).run P w = .ok (.value u) w' := fun hr => by
      simp only [execOp, ho, resolve, invoke, builtin, Sem.run_bind, Sem.run_pure, Result.andThen_ok, List.map_toArray, List.map_cons, List.map_nil, hr]
    split at h
    · rename_i ie hie
      split at h
      · rename_i z0 hz0
        split at h
        · rename_i kn k i n hey
          rw [hey] at hy
          split at h
          · rename_i kl kn' e' ty l hk
            split at h
            · rename_i ks ke ys hsrc hd
              simp only [Bool.and_eq_true, decide_eq_true_eq] at hd
              obtain ⟨⟨⟨he', hs1⟩, hs2⟩, _⟩ := hd
              subst he'
              obtain ⟨hc, h'⟩ := Tr.ite_bad h
              clear h
              simp only [Bool.and_eq_true, decide_eq_true_eq] at hc
              obtain ⟨rfl, rfl⟩ := ret_pair h'
              have hk := hlk _ _ hk
              have hk0 := hkey ⟨_, List.mem_cons_of_mem _ (List.mem_singleton.2 rfl)⟩
              have hne : key ≠ k := fun e => by rw [e, hk] at hk0; cases hk0
              obtain ⟨sa, sc, hu2, hl2, us, hf, hsa⟩ := srcOf_is r.toRepM hlk hsrc hz
              obtain ⟨h0, hcl, ad, c, hu1, h1, h2, h3⟩ := sis_row r.toRepM hk hy
              obtain ⟨r1, g1⟩ := r.toRepM.kill k
              have hk1 : (own.set k .dead).look key = none := by rw [Own.look_set, if_neg hne]; exact hk0
              have fin : ∀ {us0 : List Value}, Flat w fr ty (cut l 0 n) us0 → (((∃ va, a.eval y = .slice va 0 0) ∧ cut l 0 n = []) ∨ ∃ b C, a.eval y = .slice (some ⟨b, 0, none⟩) (cut l 0 n).length C ∧ (cut l 0 n).length ≤ C ∧ C ≤ maxLen ∧ Blk w b e' (C * ty.size) ∧ w0.heap.size ≤ b ∧ ¬ fr b ∧ (∀ k' ob, (own.set k .dead).look k' = some ob → ob.live → ρ k' ≠ some b) ∧ ∀ (j : Nat) u, us0[j]? = some u → w.cell? ⟨b, j, none⟩ = some u) → o.wp P a w K Q := fun hf0 hv => by
                obtain ⟨u, w', b, h4, h5, h6, h7⟩ := append_core (ty' := o.type) (kl := kl && kn && ks) (kn := kn' && ke) r1 ht hie hz0 hs1 hs2 hf0 hf hk1 hl2 hsa (by rw [hcl]; exact hc.1) (by rw [hcl]; exact hc.2) (a.eval y) hv
                rw [hu2] at run
                exact wp_value (run h4) (hK _ fr _ _ h5 (g1.trans h6) h7)
              rcases h3 with ⟨_, rfl, hz'⟩ | ⟨b, C, h4, h5, h6, h7, h8, h9⟩
              · have hc0 : cut l 0 n = [] := List.length_eq_zero_iff.1 (by rw [hcl, hz'])
                rw [hz'] at hu1
                exact fin (us0 := []) (by rw [hc0]; exact Flat.nil) (.inl ⟨⟨_, hu1⟩, hc0⟩)
              · obtain ⟨rfl, h10⟩ := h9 (.inl rfl)
                have : c = C := by omega
                subst this
                obtain ⟨us0, h11, h12⟩ := flat_of_row (w := w) (fr := fr) (l := cut l 0 n) (b := b) (o := 0) fun j z' hj => by
                  have := cut_get l 0 n j hj
                  rw [Nat.zero_add] at this
                  exact h8 j z' this
                rcases r.rows k true kl kn' e' ty l hk with ⟨h13, _⟩ | ⟨b', C', h13, h14, _, _, _, _, h15, _⟩
                · rw [h4] at h13; cases h13
                · rw [h4] at h13; cases h13
                  refine fin h11 (.inr ⟨b, c, by rw [hu1, hcl]; simp, by omega, h7, h5, h14, h15 rfl, fun k' ob ha hb hc' => ?_, fun j u hj => by have := h12 j u hj; rwa [Nat.zero_add] at this⟩)
                  rw [Own.look_set] at ha
                  by_cases e2 : k' = k
                  · subst e2; simp at ha; subst ha; exact hb
                  · simp only [e2, if_false] at ha
                    exact e2 (r.inj k' k ob _ b ha hk hb trivial hc' h4)
            · cases h
          · cases h
        · rename_i kn hey
          rw [hey] at hy
          have hy : a.eval y = .slice none 0 0 := hy
          split at h
          · rename_i ty hty
            split at h
            · rename_i ks ke ys hsrc hd
              simp only [Bool.and_eq_true, decide_eq_true_eq] at hd
              obtain ⟨⟨hs1, hs2⟩, _⟩ := hd
              obtain ⟨hc, h'⟩ := Tr.ite_bad h
              clear h
              simp only [Bool.and_eq_true, decide_eq_true_eq] at hc
              obtain ⟨rfl, rfl⟩ := ret_pair h'
              have hk0 := hkey ⟨_, List.mem_singleton.2 rfl⟩
              obtain ⟨sa, sc, hu2, hl2, us, hf, hsa⟩ := srcOf_is r.toRepM hlk hsrc hz
              obtain ⟨u, w', b, h4, h5, h6, h7⟩ := append_core (ty' := o.type) (kl := ks) (kn := ke) (l0 := []) (us0 := []) r.toRepM ht hie hz0 hs1 hs2 Flat.nil hf hk0 hl2 hsa (by simpa using hc.1) (by simpa using hc.2) (a.eval y) (.inl ⟨⟨_, hy⟩, rfl⟩)
              rw [hu2] at run
              simp only [List.nil_append] at h5 h6 h7
              exact wp_value (run h4) (hK _ fr _ _ h5 h6 h7)
            · cases h
          · cases h
        · cases h
      · cases h
    · cases h
  · cases h
theorem opCopy_sound (r : Rep w0 fr0 ρ fr tm own a w) (hlk : ∀ k ob, lk k = some ob → own.look k = some ob) {t1 t2 : TypeId} {y z : Operand}
    (ho : o.op = .call ⟨.builtin .copy, #[y, z], #[t1, t2]⟩) (h : (opCopy P lk t1 t2 (opd tm y) (opd tm z)).val = some (x, ws)) (hK : Fin w0 fr0 ρ fr own a w o K (own.puts ws) x) : o.wp P a w K Q := by
  have hy := r.eval y
  have hz := r.eval z
  unfold opCopy at h
  split at h
  · rename_i e kn k i n ht12 ht hey
    have ht12 := of_decide_eq_true ht12
    subst ht12
    rw [hey] at hy
    have run : ∀ {u : Value} {w' : World}, (Builtin.copy_ #[t1, t1] o.type #[a.eval y, a.eval z]).run P w = .ok u w' → (execOp a.eval o).run P w = .ok (.value u) w' := fun hr => by
      simp only [execOp, ho, resolve, invoke, builtin, Sem.run_bind, Sem.run_pure, Result.andThen_ok, List.map_toArray, List.map_cons, List.map_nil, hr]
    split at h
    · rename_i ie kl kn' e' ty l hie hk
      split at h
      · rename_i ks ke ys hsrc hd
        have hd := of_decide_eq_true hd
        obtain ⟨rfl, rfl⟩ := ret_pair h
        have hk := hlk _ _ hk
        obtain ⟨sa, sc, hu2, hl2, us, hf, hsa⟩ := srcOf_is r.toRepM hlk hsrc hz
        obtain ⟨h0, hcl, ad, c, hu1, h1, h2, h3⟩ := sis_row r.toRepM hk hy
        generalize hm : min ys.length (cutLen l i n) = m
        have hpos := ty.size_pos
        have hspl : ∀ {q : List ty.den}, q = [] → i ≤ l.length → splice l i q = l := fun hq hi => by subst hq; simp [splice]
        have zero : m = 0 → o.wp P a w K Q := fun hm0 => by
          have hr : (Builtin.copy_ #[t1, t1] o.type #[a.eval y, a.eval z]).run P w = .ok (.int .i64 0) w := by
            rw [hu1, hu2]
            have hl : ∀ (x : Addr), (loadCells x 0).run P w = .ok #[] w := fun x => by simpa using run_loadCells_list (P := P) w x [] (by simp)
            have hmm : Nat.min ys.length (cutLen l i n) = 0 := by rw [← hm0, ← hm]
            cases ad <;> cases sa <;> simp [Builtin.copy_, run_und ht, Builtin.lenOf, Builtin.firstCells, sizeOf, typeInfo, hie, hmm, storeCells, hl, goInt]
          have hs : splice l i (ys.take m) = l := hspl (by simp [hm0]) (by omega)
          rw [hm, hs] at hK
          rw [hm0] at hK
          have hkeep : Keeps (.row true kl kn' e' ty l) (.row true kl (kn' && ke) e' ty l) := .inr (.inr ⟨_, _, _, _, _, _, _, _, _, _, rfl, rfl, rfl⟩)
          have hrho : rho ρ k (ρ k) = ρ := by funext j; unfold rho; split <;> simp_all
          obtain ⟨r3, g3⟩ := r.toRepM.put (k := k) (ob := .row true kl (kn' && ke) e' ty l) (b := ρ k) (fun o' ho' => by rw [hk] at ho'; cases ho'; exact ⟨rfl, hkeep⟩)
            (fun _ k' o' c hne ha hb hc e2 => hne (r.inj k' k o' _ c ha hk hb trivial hc e2)) (fun _ e2 => by cases e2)
            (fun _ _ _ _ _ _ e2 => by
              cases e2
              rcases r.rows k _ _ _ _ _ _ hk with h | ⟨b, C, h4, h5⟩
              · exact .inl h
              · exact .inr ⟨b, C, h4, h5⟩)
          rw [hrho] at r3 g3
          exact wp_value (run hr) (hK _ fr _ _ r3 g3 rfl)
        by_cases hm0 : m = 0
        · exact zero hm0
        · have hyn : ys ≠ [] := fun e2 => by subst e2; simp at hm; omega
          obtain ⟨sb, so, rfl, hnews⟩ := hsa hyn
          rcases h3 with ⟨_, _, hz'⟩ | ⟨b, C, h4, h5, h6, h7, h8, h9⟩
          · omega
          · obtain ⟨rfl, h10⟩ := h9 (.inr (by omega))
            rcases r.rows k true kl kn' e' ty l hk with ⟨h13, _⟩ | ⟨b', C', h13, h14, _, _, _, _, h15, _⟩
            · rw [h4] at h13; cases h13
            · rw [h4] at h13; cases h13
              have hus : us.length = ys.length * ty.size := hf.1
              have hml : m * ty.size ≤ us.length := by rw [hus]; exact Nat.mul_le_mul_right _ (by omega)
              have htl : (us.take (m * ty.size)).length = m * ty.size := by simp [hml]
              -- what l reads now
              obtain ⟨ul, hfl, hul⟩ := flat_of_row h8
              have hull : ul.length = l.length * ty.size := hfl.1
              have himl : i + m ≤ l.length := by omega
              have hin : i * ty.size + (us.take (m * ty.size)).length ≤ ul.length := by
                rw [htl, hull, ← Nat.add_mul]; exact Nat.mul_le_mul_right _ himl
              have hul' : ∀ (j : Nat) u, ul[j]? = some u → w.cell? ⟨b, 0 + j, none⟩ = some u := hul
              have hst := run_storeCells_cells (P := P) b (i * ty.size) (us.take (m * ty.size)) 0 w (fun j hj => by
                  have := hul' (i * ty.size + 0 + j) ul[i * ty.size + 0 + j] (List.getElem?_eq_getElem (by omega))
                  rw [Nat.zero_add] at this
                  rw [this]; rfl) (fun j _ => h5.fz _) (fun v hv => hf.2.1 v (List.mem_of_mem_take hv))
              have hr : (Builtin.copy_ #[t1, t1] o.type #[a.eval y, a.eval z]).run P w = .ok (.int .i64 (m : Int)) (w.setCells b (i * ty.size) (us.take (m * ty.size))) := by
                rw [hu1, hu2]
                have hl := run_loadCells_list (P := P) w ⟨sb, so, none⟩ (us.take (m * ty.size)) (fun j v hj => by
                  rw [add_plain']
                  rw [List.getElem?_take] at hj
                  split at hj
                  · exact hnews j v hj
                  · cases hj)
                rw [htl] at hl
                have hmm : Nat.min ys.length (cutLen l i n) = m := hm
                simp only [Nat.add_zero] at hst
                simp [Builtin.copy_, run_und ht, Builtin.lenOf, Builtin.firstCells, sizeOf, typeInfo, hie, hmm, hd, hl, goInt, hst]
              obtain ⟨r3, g3⟩ := r.toRepM.stored hk trivial h4 (h15 rfl) (i * ty.size) (us.take (m * ty.size)) (ob' := .row true kl (kn' && ke) e' ty (splice l i (ys.take m)))
                (.inr (.inr ⟨_, _, _, _, _, _, _, _, _, _, rfl, rfl, splice_len _ _ _ (by simp; omega)⟩)) trivial (fun _ e2 => by cases e2)
                (fun _ _ _ _ _ _ e2 => by
                  cases e2
                  refine ⟨rfl, C, h5, by rw [splice_len _ _ _ (by simp; omega)]; exact h6, h7, fun j z' hj => ?_⟩
                  have hfr : ∀ c, fr c → ∀ o, (w.setCells b (i * ty.size) (us.take (m * ty.size))).cell? ⟨c, o, none⟩ = w.cell? ⟨c, o, none⟩ := fun c hc o => by
                    rw [World.cell?_setCells_out b _ _ w _ (fun e3 _ => absurd (e3 ▸ hc) (h15 rfl))]
                  have hget := stored_get (w := w) (b := b) (off := i * ty.size) (zs := us.take (m * ty.size)) (base := 0) hul' hin
                  rw [splice_get _ _ _ (by simp; omega)] at hj
                  have hysl : (ys.take m).length = m := by simp; omega
                  by_cases hjr : i ≤ j ∧ j < i + (ys.take m).length
                  · rw [if_pos hjr, List.getElem?_take, if_pos (by omega)] at hj
                    obtain ⟨vs, h16, h17⟩ := hf.2.2 _ z' hj
                    refine ⟨vs, h16.mono (fun _ h => h) hfr, fun q v hq => ?_⟩
                    have hql : q < ty.size := by
                      have := (List.getElem?_eq_some_iff.1 hq).1
                      rwa [h16.length] at this
                    have h18 := h17 q v hq
                    have hji : (j - i) * ty.size + ty.size ≤ m * ty.size := by
                      have : (j - i + 1) * ty.size ≤ m * ty.size := Nat.mul_le_mul_right _ (by omega)
                      rwa [Nat.add_mul, Nat.one_mul] at this
                    have hjs : j * ty.size = i * ty.size + (j - i) * ty.size := by rw [← Nat.add_mul]; congr 1; omega
                    have := hget (j * ty.size + q) v (by
                      rw [splice_get _ _ _ hin, if_pos (by rw [htl]; omega), List.getElem?_take, if_pos (by omega), ← h18]
                      congr 1; omega)
                    simp only [Nat.zero_add] at this ⊢
                    exact this
                  · rw [if_neg hjr] at hj
                    obtain ⟨vs, h16, h17⟩ := hfl.2.2 _ z' hj
                    refine ⟨vs, h16.mono (fun _ h => h) hfr, fun q v hq => ?_⟩
                    have hql : q < ty.size := by
                      have := (List.getElem?_eq_some_iff.1 hq).1
                      rwa [h16.length] at this
                    have h18 := h17 q v hq
                    have hout : ¬ (i * ty.size ≤ j * ty.size + q ∧ j * ty.size + q < i * ty.size + (us.take (m * ty.size)).length) := by
                      rw [htl]
                      rw [hysl] at hjr
                      rcases Nat.lt_or_ge j i with hlt | hge
                      · have : (j + 1) * ty.size ≤ i * ty.size := Nat.mul_le_mul_right _ hlt
                        rw [Nat.add_mul] at this
                        omega
                      · have : (i + m) * ty.size ≤ j * ty.size := Nat.mul_le_mul_right _ (by omega)
                        rw [Nat.add_mul] at this
                        omega
                    have := hget (j * ty.size + q) v (by rw [splice_get _ _ _ hin, if_neg hout]; exact h18)
                    simp only [Nat.zero_add] at this ⊢
                    exact this)
              rw [hm] at hK
              exact wp_value (run hr) (hK _ fr _ _ r3 g3 rfl)
      · cases h
    · cases h
  · cases h
end
end Go.Proofs.Ytacgchandefjgaa
