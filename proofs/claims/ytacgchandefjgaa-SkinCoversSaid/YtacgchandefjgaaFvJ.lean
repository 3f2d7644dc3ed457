/-
  The evaluator is right: literals, parts of slices. No program is named here.
-/
import Derived.Test.YtacgchandefjgaaFvI
import Derived.Great.FillDense
import Derived.Laws.OwnMore
import Derived.Laws.Slices
namespace Go.Proofs.Ytacgchandefjgaa
open Go
section
variable {P : Program} {call : CallT} {w0 : World} {fr0 : Nat → Prop} {ρ : Nat → Option Nat} {fr : Nat → Prop} {tm : List AV} {own : Own} {a : Act} {w : World} {o : Oper} {K : Act → World → Prop} {Q : Exit → Act → World → Prop}
  {lk : Nat → Option OB} {key : Nat} {x : AV} {ws : List (Nat × OB)}
theorem fold_splice (cells : Array Value) (off : Nat) (v : Array Value) (h : off + v.size ≤ cells.size) : (v.zipIdx.foldl (fun cs (c, j) => cs.setIfInBounds (off + j) c) cells).toList = splice cells.toList off v.toList := by
  have e : v.zipIdx.foldl (fun cs (c, j) => cs.setIfInBounds (off + j) c) cells = (v.toList.zipIdx 0).foldl (fun cs (x : Value × Nat) => cs.setIfInBounds (off + x.2) x.1) cells := by
    rw [← Array.foldl_toList, Array.toList_zipIdx]
  rw [e]
  obtain ⟨h1, h2⟩ := Go.Great.foldl_set off v.toList 0 cells
  apply List.ext_getElem?
  intro j
  rw [Array.getElem?_toList, h2 j, splice_get _ _ _ (by simpa using h)]
  simp only [Nat.add_zero, Array.length_toList, Array.getElem?_toList]
  by_cases hr : off ≤ j ∧ j < off + v.size
  · rw [if_pos hr, if_pos ⟨hr.1, hr.2, by omega⟩]
  · rw [if_neg hr, if_neg (by omega)]
/-- Parts' values. -/
theorem partsOf_is (r : Rep w0 fr0 ρ fr tm own a w) : ∀ {ps : List (Nat × Operand)} {qs : List (Nat × List CV)}, partsOf (opd tm) ps = some qs →
    qs.length = ps.length ∧ ∀ (j : Nat) q, qs[j]? = some q → ∃ p, ps[j]? = some p ∧ p.1 = q.1 ∧ csIs own ρ fr w q.2 (a.eval p.2).cells.toList ∧ (∀ v ∈ (a.eval p.2).cells.toList, v.oneCell' = true) ∧ q.2.flatMap CV.keys = (opd tm p.2).keys
  | [], qs, h => by simp only [partsOf, Option.some.injEq] at h; subst h; exact ⟨rfl, fun _ _ h => by simp at h⟩
  | p :: ps, qs, h => by
    simp only [partsOf] at h
    split at h
    · rename_i cs l hcs hl
      simp only [Option.some.injEq] at h; subst h
      obtain ⟨h1, h2⟩ := partsOf_is r hl
      refine ⟨by simp [h1], fun j q hj => ?_⟩
      cases j with
      | zero =>
        simp only [List.getElem?_cons_zero, Option.some.injEq] at hj; subst hj
        obtain ⟨a1, a2, a3⟩ := asCells_is hcs (r.eval p.2)
        exact ⟨p, rfl, rfl, a1, a2, a3⟩
      | succ j => simpa using h2 j q (by simpa using hj)
    · cases h
theorem fillC_run {place : Nat → Option (Nat × Nat)} : ∀ {qs : List (Nat × List CV)} {vs : List (Nat × Value)} {cs res : List CV} {cells : Array Value}, fillC place cs qs = some res → qs.length = vs.length →
    (∀ (j : Nat) q, qs[j]? = some q → ∃ v, vs[j]? = some v ∧ v.1 = q.1 ∧ csIs own ρ fr w q.2 v.2.cells.toList) → csIs own ρ fr w cs cells.toList → ∃ cells', Instr.fill place cells vs = some cells' ∧ csIs own ρ fr w res cells'.toList
  | [], [], cs, res, cells, h, _, _, hc => by simp only [fillC, Option.some.injEq] at h; subst h; exact ⟨cells, rfl, hc⟩
  | [], _ :: _, _, _, _, _, hl, _, _ => by simp at hl
  | _ :: _, [], _, _, _, _, hl, _, _ => by simp at hl
  | (i, q) :: qs, (i', v) :: vs, cs, res, cells, h, hl, hq, hc => by
    obtain ⟨v', h1, h2, h3⟩ := hq 0 _ rfl
    simp only [List.getElem?_cons_zero, Option.some.injEq] at h1
    subst h1
    simp only at h2 h3
    subst h2
    simp only [fillC] at h
    split at h
    · cases h
    · rename_i off size hp
      split at h
      · rename_i hd
        simp only [Bool.and_eq_true, decide_eq_true_eq] at hd
        obtain ⟨h4, _⟩ := csIs_get h3
        obtain ⟨h5, _⟩ := csIs_get hc
        simp only [Array.length_toList] at h4 h5
        have hsp := csIs_splice hc h3 hd.2
        rw [← fold_splice cells off v.cells (by omega)] at hsp
        obtain ⟨cells', h6, h7⟩ := fillC_run h (by simpa using hl) (fun j q' hj => by simpa using hq (j + 1) q' (by simpa using hj)) hsp
        refine ⟨cells', ?_, h7⟩
        simp only [Instr.fill, hp]
        rw [if_neg (by simp; omega)]
        exact h6
      · cases h
theorem opBuild_sound (r : Rep w0 fr0 ρ fr tm own a w) {t : TypeId} {parts : Array (Nat × Operand)} (ho : o.op = .build t parts) (h : (opBuild P (opd tm) t parts).val = some (x, ws)) (hK : Fin w0 fr0 ρ fr own a w o K (own.puts ws) x) : o.wp P a w K Q := by
  unfold opBuild at h
  split at h
  · rename_i it ps hit hps
    obtain ⟨h1, h2⟩ := partsOf_is r hps
    have fin : ∀ {place : Nat → Option (Nat × Nat)} {z : Value} {cs : List CV}, fillC place (z.cells.toList.map (CV.ofV true)) ps = some cs → (∀ cells, Instr.fill place z.cells (parts.map fun (i, y) => (i, a.eval y)).toList = some cells → P.built t (parts.map fun (i, y) => (i, a.eval y)).toList = some cells) →
        (Tr.ret (AV.ag cs, [])).val = some (x, ws) → o.wp P a w K Q := fun hf hb h => by
      obtain ⟨rfl, rfl⟩ := ret_pair h
      obtain ⟨cells, h3, h4⟩ := fillC_run (vs := (parts.map fun (i, y) => (i, a.eval y)).toList) hf (by simp [h1]) (fun j q hj => by
        obtain ⟨p, h5, h6, h7, _⟩ := h2 j q hj
        exact ⟨(p.1, a.eval p.2), by rw [Array.toList_map, List.getElem?_map, h5]; rfl, h6, h7⟩) (ofVs_is true _)
      exact wp_pureK r hK (by simp only [execOp, ho, Sem.run_bind, run_build w t _ cells (hb cells h3), Result.andThen_ok]; rfl) ⟨cells.toList, by simp, h4⟩
    split at h
    · rename_i z n e hz hu
      split at h
      · rename_i ie hie
        split at h
        · rename_i cs hf
          exact fin hf (fun cells hc => by unfold Program.built; simp only [hit, hu, hz, hie]; exact hc) h
        · cases h
      · cases h
    · rename_i z fields hz hu
      split at h
      · rename_i places hp
        split at h
        · rename_i cs hf
          exact fin hf (fun cells hc => by unfold Program.built; simp only [hit, hu, hz, hp]; exact hc) h
        · cases h
      · cases h
    · cases h
  · cases h
theorem slice_run {t e : TypeId} {m len cap : Nat} {ad : Option Addr} (ht : P.underlying t = some (.slice e)) (hm : (P.info? e).map (·.size) = some m) (hlc : len ≤ cap) {lo hi : Option Operand} {ev : Operand → AV} (hev : ∀ y, (ev y).is own ρ fr w (a.eval y)) {k1 k2 kl : Bool} {A B : Int}
    (h1 : loOf ev lo = some (k1, A)) (h2 : hiOf ev len kl hi = some (k2, B)) (h0 : 0 ≤ A) (hAB : A ≤ B) (hB : B ≤ (len : Int)) :
    (Instr.sliceAt t (.slice ad len cap) (lo.map a.eval) (hi.map a.eval) none).run P w = .ok (.slice (if cap = A.toNat then ad else ad.map (·.add (A.toNat * m))) (B.toNat - A.toNat) (cap - A.toNat)) w := by
  have hlo : ∀ y, lo = some y → ∃ kd, a.eval y = .int kd A := fun y hy => by
    subst hy
    simp only [loOf] at h1
    split at h1
    · rename_i kn kd n he
      simp only [Option.some.injEq, Prod.mk.injEq] at h1
      obtain ⟨_, rfl⟩ := h1
      have := hev y
      rw [he] at this
      exact ⟨kd, this⟩
    · cases h1
  have hhi : ∀ y, hi = some y → ∃ kd, a.eval y = .int kd B := fun y hy => by
    subst hy
    simp only [hiOf] at h2
    split at h2
    · rename_i kn kd n he
      simp only [Option.some.injEq, Prod.mk.injEq] at h2
      obtain ⟨_, rfl⟩ := h2
      have := hev y
      rw [he] at this
      exact ⟨kd, this⟩
    · cases h2
  have eB : (B.toNat : Int) = B := Int.toNat_of_nonneg (by omega)
  have c1 : B ≤ (cap : Int) := by omega
  cases lo with
  | none =>
    simp only [loOf, Option.some.injEq, Prod.mk.injEq] at h1
    obtain ⟨_, rfl⟩ := h1
    cases hi with
    | none =>
      simp only [hiOf, Option.some.injEq, Prod.mk.injEq] at h2
      obtain ⟨_, rfl⟩ := h2
      simp [Instr.sliceAt, Instr.slice, run_und ht, Instr.sliceBounds, run_size' hm]
    | some y =>
      obtain ⟨kd, hy⟩ := hhi y rfl
      simp [Instr.sliceAt, Instr.slice, run_und ht, Instr.sliceBounds, run_size' hm, hy, Instr.sliceBound, asIntOf, hAB, c1]
  | some z =>
    obtain ⟨kz, hz⟩ := hlo z rfl
    cases hi with
    | none =>
      simp only [hiOf, Option.some.injEq, Prod.mk.injEq] at h2
      obtain ⟨_, rfl⟩ := h2
      simp [Instr.sliceAt, Instr.slice, run_und ht, Instr.sliceBounds, run_size' hm, hz, Instr.sliceBound, asIntOf, h0, hAB]
    | some y =>
      obtain ⟨kd, hy⟩ := hhi y rfl
      simp [Instr.sliceAt, Instr.slice, run_und ht, Instr.sliceBounds, run_size' hm, hy, hz, Instr.sliceBound, asIntOf, h0, hAB, c1, eB, show 0 ≤ B by omega]
theorem cutD_len {α : Type} {l : List α} {ev : Operand → AV} {lo hi : Option Operand} {k1 k2 kl : Bool} {A B : Int} (h1 : loOf ev lo = some (k1, A)) (h2 : hiOf ev l.length kl hi = some (k2, B)) (h0 : 0 ≤ A) (hAB : A ≤ B) (hB : B ≤ (l.length : Int)) :
    (cutD l lo hi A B).length = B.toNat - A.toNat ∧ ∀ (j : Nat) x, (cutD l lo hi A B)[j]? = some x → l[A.toNat + j]? = some x := by
  cases lo with
  | none =>
    simp only [loOf, Option.some.injEq, Prod.mk.injEq] at h1
    obtain ⟨_, rfl⟩ := h1
    cases hi with
    | none =>
      simp only [hiOf, Option.some.injEq, Prod.mk.injEq] at h2
      obtain ⟨_, rfl⟩ := h2
      simp [cutD]
    | some y =>
      refine ⟨by simp [cutD]; omega, fun j x hj => ?_⟩
      simp only [cutD, List.getElem?_take] at hj
      split at hj
      · simpa using hj
      · cases hj
  | some z =>
    cases hi with
    | none =>
      simp only [hiOf, Option.some.injEq, Prod.mk.injEq] at h2
      obtain ⟨_, rfl⟩ := h2
      exact ⟨by simp [cutD], fun j x hj => by simpa [cutD] using hj⟩
    | some y =>
      refine ⟨by simp [cutD]; omega, fun j x hj => ?_⟩
      simp only [cutD, List.getElem?_drop, List.getElem?_take] at hj
      split at hj
      · exact hj
      · cases hj
theorem isZero_is {y : AV} {u : Value} (h : isZero y = true) (hy : y.is own ρ fr w u) : ∃ k, u = .int k 0 := by
  unfold isZero at h
  split at h
  · rename_i k n
    have := of_decide_eq_true h
    subst this
    exact ⟨k, hy⟩
  · cases h
theorem elTy_is (r : RepM w0 fr0 ρ fr own w) (hlk : ∀ k ob, lk k = some ob → own.look k = some ob) {t e : TypeId} {ty : Ty} {y : AV} {u : Value} (h : elTy P lk t y = some (e, ty)) (hy : y.is own ρ fr w u) : P.underlying t = some (.slice e) ∧ ∃ a n c, u = .slice a n c := by
  unfold elTy at h
  split at h
  · rename_i e' _ _ ty' l ht
    cases h
    obtain ⟨a, c, e1, _⟩ := hy
    simp only [List.cons.injEq, and_true] at e1
    exact ⟨ht, _, _, _, e1⟩
  · rename_i e' _ k i n ht
    split at h
    · cases h
      obtain ⟨a, m, c, e1⟩ := SIs.slice hy
      exact ⟨ht, _, _, _, e1⟩
    · cases h
  · rename_i e' _ ht
    cases hq : tyOf P 8 e' with
    | none => rw [hq] at h; cases h
    | some q => rw [hq] at h; cases h; exact ⟨ht, _, _, _, hy⟩
  · cases h
theorem slice_run0 {t e : TypeId} {m len cap : Nat} {ad : Option Addr} (ht : P.underlying t = some (.slice e)) (hm : (P.info? e).map (·.size) = some m) {k1 k2 : IntKind} :
    (Instr.sliceAt t (.slice ad len cap) none (some (.int k1 0)) (some (.int k2 0))).run P w = .ok (.slice (if 0 = 0 then ad else ad.map (·.add (0 * m))) 0 0) w := by
  simp [Instr.sliceAt, Instr.slice, run_und ht, Instr.sliceBounds, run_size' hm, Instr.sliceBound, asIntOf]
theorem slice_nil0 {t e : TypeId} {m : Nat} (ht : P.underlying t = some (.slice e)) (hm : (P.info? e).map (·.size) = some m) {k2 : IntKind} :
    (Instr.sliceAt t (.slice none 0 0) none (some (.int k2 0)) none).run P w = .ok (.slice none 0 0) w := by
  simp [Instr.sliceAt, Instr.slice, run_und ht, Instr.sliceBounds, run_size' hm, Instr.sliceBound, asIntOf]
theorem slice_run3 {t e : TypeId} {m len cap : Nat} {ad : Option Addr} (ht : P.underlying t = some (.slice e)) (hm : (P.info? e).map (·.size) = some m) {k1 k2 k3 : IntKind} {A B C : Int} (h0 : 0 ≤ A) (hAB : A ≤ B) (hBC : B ≤ C) (hC : C ≤ (cap : Int)) :
    ∃ v, (Instr.sliceAt t (.slice ad len cap) (some (.int k1 A)) (some (.int k2 B)) (some (.int k3 C))).run P w = .ok v w := by
  have eB : (B.toNat : Int) = B := Int.toNat_of_nonneg (by omega)
  have eC : (C.toNat : Int) = C := Int.toNat_of_nonneg (by omega)
  refine ⟨.slice (if C.toNat = A.toNat then ad else ad.map (·.add (A.toNat * m))) (B.toNat - A.toNat) (C.toNat - A.toNat), ?_⟩
  simp [Instr.sliceAt, Instr.slice, run_und ht, Instr.sliceBounds, run_size' hm, Instr.sliceBound, asIntOf, h0, hAB, hBC, hC, eB, eC, show 0 ≤ B by omega, show 0 ≤ C by omega]
theorem opSlice_sound (r : Rep w0 fr0 ρ fr tm own a w) (hlk : ∀ k ob, lk k = some ob → own.look k = some ob) (hkey : (∃ ob, (key, ob) ∈ ws) → own.look key = none) {t : TypeId} {y : Operand} {lo hi mx : Option Operand} (ho : o.op = .slice t y lo hi mx) (h : (opSlice P lk key (opd tm) t (opd tm y) lo hi mx).val = some (x, ws)) (hK : Fin w0 fr0 ρ fr own a w o K (own.puts ws) x) : o.wp P a w K Q := by
  have hy := r.eval y
  unfold opSlice at h
  split at h
  · rename_i mm
    split at h
    · rename_i hh e ty hel
      split at h
      · rename_i hd
        simp only [Bool.and_eq_true, decide_eq_true_eq] at hd
        obtain ⟨⟨hz1, hz2⟩, hm⟩ := hd
        obtain ⟨rfl, rfl⟩ := ret_pair h
        have hk0 := hkey ⟨_, List.mem_singleton.2 rfl⟩
        obtain ⟨ht, ad, n, c, hu⟩ := elTy_is r.toRepM hlk hel hy
        obtain ⟨k1, e1⟩ := isZero_is hz1 (r.eval hh)
        obtain ⟨k2, e2⟩ := isZero_is hz2 (r.eval mm)
        obtain ⟨r3, g3⟩ := r.toRepM.put (k := key) (ob := .row true true true e ty []) (b := none) (fresh_live hk0) (fun _ _ _ _ _ _ _ _ h => by cases h) (fun _ e => by cases e) (fun _ _ _ _ _ _ e' => by cases e'; exact .inl ⟨rfl, rfl⟩)
        refine wp_value (u := .slice (if 0 = 0 then ad else ad.map (·.add (0 * ty.size))) 0 0) (by simp only [execOp, ho, hu, Option.map_none, Option.map_some, e1, e2, Sem.run_bind, slice_run0 ht hm, Result.andThen_ok]; rfl) (hK (rho ρ key none) fr _ _ r3 g3 ?_)
        show SIs _ _ _ key 0 none _
        unfold SIs
        simp only [Own.puts, Own.look_set, if_true, cutLen]
        exact ⟨by simp, .inl ⟨by simp [rho], ⟨ad, by simp⟩, by simp⟩⟩
      · cases h
    · rename_i ll hh e ty hel
      split at h
      · rename_i q1 q2 q3 q4 q5 q6 q7 q8 q9 q10 q11 q12 q13 q14 q15 q16 q17 q18
        split at h
        · rename_i mu kl kn' e' ty' l hk
          have hm := of_decide_eq_true q18
          obtain ⟨hd, h'⟩ := Tr.ite_bad h
          clear h
          simp only [Bool.and_eq_true, decide_eq_true_eq] at hd
          obtain ⟨⟨⟨h0, hAB⟩, hBC⟩, hC⟩ := hd
          obtain ⟨rfl, rfl⟩ := ret_pair h'
          obtain ⟨ht, _⟩ := elTy_is r.toRepM hlk hel hy
          rw [q14] at hy
          obtain ⟨_, _, ad, c, hu, h4, _, _⟩ := sis_row r.toRepM (hlk _ _ hk) hy
          have e1 : a.eval ll = .int q6 q7 := by have := r.eval ll; rw [q15] at this; exact this
          have e2 : a.eval hh = .int q9 q10 := by have := r.eval hh; rw [q16] at this; exact this
          have e3 : a.eval mm = .int q12 q13 := by have := r.eval mm; rw [q17] at this; exact this
          obtain ⟨v, run⟩ := slice_run3 (w := w) (P := P) (ad := ad) (len := cutLen l q3 q4) (cap := c) (k1 := q6) (k2 := q9) (k3 := q12) ht hm h0 hAB hBC (by omega)
          exact wp_pureK r hK (u := v) (by simp only [execOp, ho, hu, e1, e2, e3, Option.map_some, Sem.run_bind, run, Result.andThen_ok]; rfl) trivial
        · cases h
      · cases h
    · cases h
  · split at h
    · rename_i kn s ht he
      rw [he] at hy
      have hy : a.eval y = .string s := hy
      split at h
      · rename_i k1 A k2 B h1 h2
        obtain ⟨hd, h'⟩ := Tr.ite_bad h
        clear h
        simp only [Bool.and_eq_true, decide_eq_true_eq] at hd
        obtain ⟨⟨h0, hAB⟩, hB⟩ := hd
        obtain ⟨rfl, rfl⟩ := ret_pair h'
        refine wp_pureK r hK (u := .string (s.extract A.toNat B.toNat)) ?_ rfl
        have hlo : ∀ z, lo = some z → ∃ kd, a.eval z = .int kd A := fun z hz => by
          subst hz
          simp only [loOf] at h1
          split at h1
          · rename_i kn kd n he
            simp only [Option.some.injEq, Prod.mk.injEq] at h1
            obtain ⟨_, rfl⟩ := h1
            have := r.eval z
            rw [he] at this
            exact ⟨kd, this⟩
          · cases h1
        have hhi : ∀ z, hi = some z → ∃ kd, a.eval z = .int kd B := fun z hz => by
          subst hz
          simp only [hiOf] at h2
          split at h2
          · rename_i kn kd n he
            simp only [Option.some.injEq, Prod.mk.injEq] at h2
            obtain ⟨_, rfl⟩ := h2
            have := r.eval z
            rw [he] at this
            exact ⟨kd, this⟩
          · cases h2
        have eB : (B.toNat : Int) = B := Int.toNat_of_nonneg (by omega)
        cases lo with
        | none =>
          simp only [loOf, Option.some.injEq, Prod.mk.injEq] at h1
          obtain ⟨_, rfl⟩ := h1
          cases hi with
          | none =>
            simp only [hiOf, Option.some.injEq, Prod.mk.injEq] at h2
            obtain ⟨_, rfl⟩ := h2
            simp [execOp, ho, hy, Instr.sliceAt, Instr.slice, run_und ht, Instr.sliceBounds]
          | some z =>
            obtain ⟨kd, hz⟩ := hhi z rfl
            simp [execOp, ho, hy, Instr.sliceAt, Instr.slice, run_und ht, Instr.sliceBounds, hz, Instr.sliceBound, asIntOf, hAB, hB]
        | some z =>
          obtain ⟨kz, hz⟩ := hlo z rfl
          cases hi with
          | none =>
            simp only [hiOf, Option.some.injEq, Prod.mk.injEq] at h2
            obtain ⟨_, rfl⟩ := h2
            simp [execOp, ho, hy, Instr.sliceAt, Instr.slice, run_und ht, Instr.sliceBounds, hz, Instr.sliceBound, asIntOf, h0, hAB]
          | some z' =>
            obtain ⟨kd, hz'⟩ := hhi z' rfl
            simp [execOp, ho, hy, Instr.sliceAt, Instr.slice, run_und ht, Instr.sliceBounds, hz, hz', Instr.sliceBound, asIntOf, h0, hAB, hB, eB, show 0 ≤ B by omega]
      · cases h
    · rename_i e kl kn ty l ht he
      split at h
      · rename_i k1 A k2 B h1 h2 hm
        have hm := of_decide_eq_true hm
        obtain ⟨hd, h'⟩ := Tr.ite_bad h
        clear h
        simp only [Bool.and_eq_true, decide_eq_true_eq] at hd
        obtain ⟨⟨h0, hAB⟩, hB⟩ := hd
        obtain ⟨rfl, rfl⟩ := ret_pair h'
        rw [he] at hy
        obtain ⟨ad, c, hu, h3, h4, h5⟩ := hy
        simp only [List.cons.injEq, and_true] at hu
        have run := slice_run (ad := ad) (cap := c) ht hm h3 (r.eval) h1 h2 h0 hAB hB
        obtain ⟨c1, c2⟩ := cutD_len h1 h2 h0 hAB hB
        refine wp_pureK r hK (by simp only [execOp, ho, hu, Option.map_none, Sem.run_bind, run, Result.andThen_ok]; rfl) ⟨_, _, by rw [c1], by rw [c1]; omega, by omega, fun hne => ?_⟩
        have hp : 0 < (cutD l lo hi A B).length := List.length_pos_iff.2 hne
        rw [c1] at hp
        obtain ⟨b, o', rfl, hb, hrow⟩ := h5 (fun e => by rw [e] at hB; simp at hB; omega)
        refine ⟨b, o' + A.toNat * ty.size, by rw [if_neg (by omega)]; simp [add_plain'], hb, fun j z hj => ?_⟩
        obtain ⟨us, h6, h7⟩ := hrow _ z (c2 j z hj)
        refine ⟨us, h6, fun q v hq => ?_⟩
        have := h7 q v hq
        rwa [Nat.add_mul, ← Nat.add_assoc] at this
      · cases h
    · rename_i e kn k r' n ht he
      split at h
      · rename_i mu kl kn' e' ty l hk
        split at h
        · rename_i k1 A k2 B h1 h2 hm
          have hm := of_decide_eq_true hm
          obtain ⟨hd, h'⟩ := Tr.ite_bad h
          clear h
          simp only [Bool.and_eq_true, decide_eq_true_eq] at hd
          obtain ⟨⟨h0, hAB⟩, hB⟩ := hd
          obtain ⟨rfl, rfl⟩ := ret_pair h'
          rw [he] at hy
          have hk := hlk _ _ hk
          obtain ⟨h3, _, ad, c, hu, h4, h5, h6⟩ := sis_row r.toRepM hk hy
          have run := slice_run (ad := ad) (cap := c) ht hm h4 (r.eval) h1 h2 h0 hAB hB
          have hnew : cutLen l (newLo lo r' A) (newHi hi n A B) = B.toNat - A.toNat := by
            unfold newLo newHi
            cases lo with
            | none =>
              simp only [loOf, Option.some.injEq, Prod.mk.injEq] at h1
              obtain ⟨_, rfl⟩ := h1
              cases hi with
              | none =>
                simp only [hiOf, Option.some.injEq, Prod.mk.injEq] at h2
                obtain ⟨_, rfl⟩ := h2
                cases n with
                | none => simp
                | some n => simp [cutLen]
              | some z => simp [cutLen]
            | some z =>
              cases hi with
              | none =>
                simp only [hiOf, Option.some.injEq, Prod.mk.injEq] at h2
                obtain ⟨_, rfl⟩ := h2
                cases n with
                | none =>
                  simp only [Int.toNat_natCast]
                  cases hA : A.toNat with
                  | zero => simp
                  | succ q =>
                    cases r' with
                    | zero => simp [cutLen]
                    | succ r' => simp [cutLen]; omega
                | some n => simp only [cutLen]; omega
              | some z' => simp only [cutLen]; omega
          have hs : SIs own ρ w k (newLo lo r' A) (newHi hi n A B) (.slice (if c = A.toNat then ad else ad.map (·.add (A.toNat * ty.size))) (B.toNat - A.toNat) (c - A.toNat)) := by
            unfold SIs
            rw [hk]
            simp only
            rw [hnew]
            have hst : newLo lo r' A = r' + A.toNat := by
              unfold newLo
              cases lo with
              | none => simp only [loOf, Option.some.injEq, Prod.mk.injEq] at h1; obtain ⟨_, rfl⟩ := h1; simp
              | some _ => rfl
            rw [hst]
            refine ⟨by omega, ?_⟩
            rcases h6 with ⟨h7, rfl, h8⟩ | ⟨b, C, h7, h8, h9, h10, h11, h12⟩
            · refine .inl ⟨h7, ?_, by omega⟩
              have : A.toNat = 0 := by omega
              have : B.toNat = 0 := by omega
              exact ⟨ad, by simp [*]⟩
            · refine .inr ⟨b, C, _, _, h7, h8, rfl, by omega, by omega, h10, fun hh => ?_⟩
              have : r' = 0 ∨ 0 < cutLen l r' n := by omega
              obtain ⟨rfl, h13⟩ := h12 this
              have hAC : A.toNat = 0 ∨ c ≠ A.toNat := by omega
              by_cases hcA : c = A.toNat
              · rw [if_pos hcA]
                have : A.toNat = 0 := by omega
                simp [this]; omega
              · rw [if_neg hcA]
                exact ⟨by simp [add_plain', Nat.add_mul], by omega⟩
          exact wp_pureK r hK (by simp only [execOp, ho, hu, Option.map_none, Sem.run_bind, run, Result.andThen_ok]; rfl) hs
        · cases h
      · cases h
    · rename_i e kn ht he
      rw [he] at hy
      have hy : a.eval y = .slice none 0 0 := hy
      split at h
      · rename_i ie hz hie
        obtain ⟨rfl, rfl⟩ := ret_pair h
        cases hi with
        | none => cases hz
        | some hh =>
          obtain ⟨k1, e1⟩ := isZero_is hz (r.eval hh)
          have hr := slice_nil0 (P := P) (w := w) (m := ie.size) (k2 := k1) ht (by rw [hie]; rfl)
          exact wp_pureK r hK (u := .slice none 0 0) (by simp only [execOp, ho, hy, Option.map_none, Option.map_some, e1, Sem.run_bind, hr, Result.andThen_ok]; rfl) rfl
      · cases h
    · rename_i n e k off ht he
      rw [he] at hy
      obtain ⟨b, hb, hu⟩ := hy
      split at h
      · rename_i cs m hk hm
        split at h
        · rename_i hn
          rw [Bool.and_eq_true, Nat.ble_eq, Nat.ble_eq] at hn
          obtain ⟨rfl, rfl⟩ := ret_pair h
          have hr : (Instr.sliceAt t (.pointer (some ⟨b, off, none⟩)) none none none).run P w = .ok (.slice (some ⟨b, off, none⟩) n n) w := by
            have hn0 : n ≠ 0 := by omega
            simp [Instr.sliceAt, run_und ht, Instr.sureAddr, Instr.sliceBounds, run_size' hm, add_plain', hn0]
          refine wp_pureK r hK (u := .slice (some ⟨b, off, none⟩) n n) (by simp only [execOp, ho, hu, Option.map_none, Sem.run_bind, hr, Result.andThen_ok]; rfl) ?_
          show SIs own ρ w k off (some n) _
          unfold SIs
          rw [hlk _ _ hk]
          refine ⟨⟨_, _, _, rfl⟩, fun m' hm' => ?_⟩
          cases hm'
          exact ⟨b, n, hb, rfl, Nat.le_refl _, by unfold maxLen; omega⟩
        · cases h
      · cases h
    · cases h
end
end Go.Proofs.Ytacgchandefjgaa
